import Derived.Test.YtpekbmegopfhfaaGreatDoorK33
set_option maxRecDepth 100000
set_option maxHeartbeats 16000000
namespace Go.Proofs.YtpekbmegopfhfaaGreatDoor
open Go.ChangeShapes Go.WideShapes Go.ChangeAt Go.RowKit _root_.Go.Proofs.Tryz
def v0:Vd:=⟨0,0,[],[],0,0,0,0,[],[],[],0,[],[],0,0,0⟩
def Ht (wd lim:Int) (ss tt:List ByteArray) (r:Rs):Vd:=⟨wd,lim,ss,tt,wd,r.now,r.given,r.births,r.ks,r.ps,r.ls,0,[],[],0,0,0⟩
def El (wd lim:Int) (ss tt:List ByteArray) (c:Int) (v:Vd):Prop:=
 (¬((1<=wd/\wd<=8)/\(0<=lim/\lim<=1000000)/\Ci ss tt=true)/\c=1/\v=v0)∨
 (((1<=wd/\wd<=8)/\(0<=lim/\lim<=1000000)/\Ci ss tt=true)/\(((∃n,Ev wd (ss++tt) n)/\c=2/\v=v0)∨(∃r,CV wd r0 (ss++tt) r/\c=0/\v=Ht wd lim ss tt r)))
theorem El.det {wd lim:Int} {ss tt:List ByteArray} {c c':Int} {v v':Vd} (h:El wd lim ss tt c v) (k:El wd lim ss tt c' v'):c=c'/\v=v':=by
 rcases h with⟨h1,rfl,rfl⟩|⟨g,h⟩<;>rcases k with⟨k1,rfl,rfl⟩|⟨g',k⟩
 ·exact⟨rfl,rfl⟩
 ·exact absurd g' h1
 ·exact absurd g k1
 ·rcases h with⟨⟨n,h⟩,rfl,rfl⟩|⟨r,h,rfl,rfl⟩<;>rcases k with⟨⟨m,k⟩,rfl,rfl⟩|⟨q,k,rfl,rfl⟩
  ·exact⟨rfl,rfl⟩
  ·exact absurd k (h.not g.1.1 g.1.2)
  ·exact absurd h (k.not g.1.1 g.1.2)
  ·obtain rfl:=h.det k
   exact⟨rfl,rfl⟩
theorem Aw.nil (w:World) (base:Nat):Aw w base XN XN XN XN XN XN XN [] v0:=
 ⟨Ar.nil _ _,Ar.nil _ _,⟨rfl,⟨rfl,.inl ⟨rfl,rfl⟩⟩,(fun i k r h=>by cases i<;>cases h),⟨rfl,.inl ⟨rfl,rfl⟩⟩,⟨rfl,.inl ⟨rfl,rfl⟩⟩,List.nodup_nil⟩,Ar.nil _ _,Ar.nil _ _,List.nodup_nil⟩
def Qk (wd lim:Int) (ss tt:List ByteArray) (w:World) (e:Ending) (w':World):Prop:=
 ∃(c:Int) (v:Vd) (S U T P L Q M:Value) (rs:List Value),El wd lim ss tt c v/\e=.returned (.tuple #[.agg #[XJ v.wd,XJ v.lim,S,U,XJ v.sw,XJ v.now,XJ v.given,XJ v.births,T,P,L,XJ v.ph,Q,M,XJ v.top,XJ v.at_,XJ v.ro],XJ c])/\Aw w' w.heap.size S U T P L Q M rs v/\Xz w w'
theorem Sf (wd lim:Int) (a b:Option Addr) (c d:Nat) (ss tt:List ByteArray) (w:World) (hr:Ae w w.heap.size a ss) (hq:Ae w w.heap.size b tt) (hl:ss.length<=1048576) (yM:tt.length<=1048576) (hs:∀s∈ss,s.size<=1048576) (ht:∀s∈tt,s.size<=1048576) (hE:Env w):
 Calls prog 21 #[XJ wd,XJ lim,.agg #[.slice a ss.length c,.slice b tt.length d]] w (Qk wd lim ss tt w):=by
 obtain⟨W,hW⟩:∃W,W=(w.alloc (.cells #[.slice a ss.length c,.slice b tt.length d] 40)).alloc (.cells #[XK,XK,XN,XN,XK,XK,XK,XK,XN,XN,XN,XK,XN,XN,XK,XK,XK] 44):=⟨_,rfl⟩;have bW:=(AP hW).1;have zW:=(AP hW).2.1;have xW:=(AP hW).2.2.1;have xZ:Aa W (w.heap.size+1) [XK,XK,XN,XN,XK,XK,XK,XK,XN,XN,XN,XK,XN,XN,XK,XK,XK]:=by
  have h1:=Aa.new (w.alloc (.cells #[.slice a ss.length c,.slice b tt.length d] 40)) [XK,XK,XN,XN,XK,XK,XK,XK,XN,XN,XN,XK,XN,XN,XK,XK,XK] 44;rw[World.size_alloc] at h1;rw[hW];exact h1
 have HX:Hid (Aa W _ _):=(AP hW).2.2.1;have HZ:Hid (Aa W (w.heap.size+1) [XK,XK,XN,XN,XK,XK,XK,XK,XN,XN,XN,XK,XN,XN,XK,XK,XK]):=xZ;have HR:Hid (∀X,Xz w X->Ae X X.heap.size a ss/\Ae X X.heap.size b tt):=fun X hX=>⟨hr.below' hX,hq.below' hX⟩;have HW:Hid _:=hW;have zO:Hid _:=JE wd W;have zT:Hid _:=Kj lim W;have zU:Hid _:=FJ a b c d ss tt W (hr.below' bW) (hq.below' bW) hl yM hs ht
 obtain⟨y0,y1⟩:=Aa.c2 xW 0 1;clear hW xW xZ hr hq;by_cases hwd:1<=wd/\wd<=8
 ·rw[decide_eq_true hwd] at zO
  by_cases hlim:0<=lim/\lim<=1000000
  ·rw[decide_eq_true hlim] at zT
   cases hlog:Ci ss tt with
   |true=>
    rw[hlog] at zU;have yO:=Fp hlog;have yT:ss.length<=4000:=by rw[List.length_append] at yO;omega
    have yS:tt.length<=4000:=by rw[List.length_append] at yO;omega
    have HP:Hid (∀X,Xz w X->Calls prog 45 #[XJ wd,.func (.func 59) #[.agg #[.slice a ss.length c,.slice b tt.length d]] #[]] X fun e w'=>Xz X w'/\((∃n:Nat,Ev wd (ss++tt) n/\e=.returned (.tuple #[.pointer none,XJ n]))∨(∃r d m O P L base,CV wd r0 (ss++tt) r/\e=.returned (.tuple #[.pointer (some ⟨d,0,none⟩),XK])/\Dr w' base d m O P L wd r.now r.given r.births r.ks r.ps r.ls/\(X.heap.size<=base/\base+4<=m)))):=fun X hX=>
     Kh wd 59 #[.agg #[.slice a ss.length c,.slice b tt.length d]] #[] (ss++tt) X hwd.1 hwd.2 (by omega) (fun s hx=>by rcases List.mem_append.1 hx with h|h;exact hs s h;exact ht s h) (hE.below hX) (enters_of func59 (by kernel_rfl) rfl) (fun V hV=>by
      have hb:=hX.trans (hV.mono hX.size);have h1:=Hs a b c d ss tt X.heap.size V (((HR.o X hX).1).below hV) (((HR.o X hX).2).below hV) hV.size (by unfold maxLen;omega) (by unfold maxLen;omega);simpa using h1)
    have HG:Hid ((1<=wd/\wd<=8)/\(0<=lim/\lim<=1000000)/\Ci ss tt=true):=⟨hwd,hlim,hlog⟩;clear hE hs ht;go_enter func21,ntmps21;go_wp2_with fail;rw[←HW.o];refine Calls.mono zO.o ?_;rintro e w1 ⟨rfl,zB⟩;replace zB:=zB.symm;subst zB;go_wp2_with fail;refine Calls.mono zT.o ?_;rintro e w1 ⟨rfl,zB⟩;replace zB:=zB.symm;subst zB;go_wp2_with fail;refine Calls.mono zU.o ?_;rintro e w2 ⟨rfl,zY⟩
    have x2:=Aa.below HX.o zY;have yN:Hid (Aa w2 w.heap.size [.slice a ss.length c,.slice b tt.length d]):=x2;have yQ:Hid (Aa w2 (w.heap.size+1) [XK,XK,XN,XN,XK,XK,XK,XK,XN,XN,XN,XK,XN,XN,XK,XK,XK]):=Aa.below (v:=XK) HZ.o zY;have z2:w.heap.size+2<=w2.heap.size:=by have:=zY.size;omega
    have yG:Hid (Xz w w2):=bW.trans (zY.mono bW.size);clear y0 y1 zO zT zU zY HW HX HZ;obtain⟨y0,y1⟩:=Aa.c2 x2 0 1;clear x2;go_wp2_with fail;refine(FU a b ss.length tt.length c d w2).mono ?_;rintro e w3 ⟨rfl,zX⟩;have yE:Hid (Aa w3 w.heap.size [.slice a ss.length c,.slice b tt.length d]):=Aa.below yN.o zX
    have yB:Hid (Aa w3 (w.heap.size+1) [XK,XK,XN,XN,XK,XK,XK,XK,XN,XN,XN,XK,XN,XN,XK,XK,XK]):=Aa.below (v:=XK) yQ.o zX;have z3:=zX.size;have zK:Hid (Xz w w3):=yG.o.trans (zX.mono yG.o.size);clear y0 y1 zX yN yQ yG;go_wp2_with fail;refine(HP.o w3 zK.o).mono ?_;rintro e w4 ⟨zG,⟨n,yI,rfl⟩|⟨r,dd,m,O,P,L,base,zP,rfl,CU,yA⟩⟩
    ·have zJ:Hid (Aa w4 (w.heap.size+1) [XK,XK,XN,XN,XK,XK,XK,XK,XN,XN,XN,XK,XN,XN,XK,XK,XK]):=Aa.below (v:=XK) yB.o zG
     have zH:Hid (Xz w w4):=zK.o.trans (zG.mono zK.o.size);have yU:0<(n:Int):=by obtain⟨j,_,_,rfl,_⟩:=yI;omega
     have zR:Hid (El wd lim ss tt 2 v0):=.inr ⟨HG.o,.inl ⟨⟨n,yI⟩,rfl,rfl⟩⟩;clear yI yE yB zK HP HR zG;have zA:(#[XK,XK,XN,XN,XK,XK,XK,XK,XN,XN,XN,XK,XN,XN,XK,XK,XK]:Array Value).all (·.oneCell')=true:=by simp[Value.oneCell']
     have zF:w4.there (w.heap.size+1) 0 17:=(zJ.o).there;have zE:Hid _:=And.intro zA zF;obtain⟨W9,zC⟩:∃X,X=w4.setCells (w.heap.size+1) 0 [XK,XK,XN,XN,XK,XK,XK,XK,XN,XN,XN,XK,XN,XN,XK,XK,XK]:=⟨_,rfl⟩;have x9:Aa W9 (w.heap.size+1) [XK,XK,XN,XN,XK,XK,XK,XK,XN,XN,XN,XK,XN,XN,XK,XK,XK]:=by rw[zC];exact(zJ.o).setAll _ rfl
     have b9:Below w.heap.size w W9:=(zH.o).trans (by rw[zC];exact(AL _ _ _ _).below (zH.o).size (by simp));have zI:Hid _:=zC;clear zA zF zC;go_wp2_with (refine wpList_store_mid rfl 44 _ _ rfl (w.heap.size+1) 0 #[XK,XK,XN,XN,XK,XK,XK,XK,XN,XN,XN,XK,XN,XN,XK,XK,XK] rfl rfl zE.o.2 (by kernel_rfl) zE.o.1 ?_);rw[←zI.o]
     refine bodyPost_ret (CN results21 _ _ (w.heap.size+1) [XK,XK,XN,XN,XK,XK,XK,XK,XN,XN,XN,XK,XN,XN,XK,XK,XK] _ rfl rfl x9.range underlying44 rfl (by kernel_rfl)) rfl ?_;exact⟨2,v0,_,_,_,_,_,_,_,[],zR.o,rfl,Aw.nil _ _,b9⟩
    ·have yL:Hid (Aa w4 w.heap.size [.slice a ss.length c,.slice b tt.length d]):=Aa.below yE.o zG
     have zJ:Hid (Aa w4 (w.heap.size+1) [XK,XK,XN,XN,XK,XK,XK,XK,XN,XN,XN,XK,XN,XN,XK,XK,XK]):=Aa.below (v:=XK) yB.o zG;have zH:Hid (Xz w w4):=zK.o.trans (zG.mono zK.o.size);have zM:=zP.ok (Fy hwd.1 hwd.2);have yD:Hid (El wd lim ss tt 0 (Ht wd lim ss tt r)):=.inr ⟨HG.o,.inr ⟨r,zP,rfl,rfl⟩⟩
     have yP:Hid (∀X,Xz w4 X->Calls prog 47 #[.pointer (some ⟨dd,0,none⟩)] X fun e w'=>∃T P' L' rs,e=.returned (.agg #[XJ wd,XJ r.now,XJ r.given,XJ r.births,T,P',L'])/\AY w' X.heap.size T P' L' rs r.ks r.ps r.ls/\Xz X w'):=fun X hX=>
      Ik base dd m O P L wd r.now r.given r.births r.ks r.ps r.ls X (CU.below hX) zM.kso.nd zM.kso.sz zM.kso.len zM.np zM.nl zM.r30
     have HC:Hid _:=Ib a b c d ss tt w4 (HR.o w4 zH.o).1 (HR.o w4 zH.o).2 hl yM;have z4:=zG.size;obtain⟨y0,y1⟩:=Aa.c2 yL.o 0 1;clear zP CU zM yA zG yE yB zK HP HR HG;go_wp2_with fail;refine Calls.mono HC.o ?_;rintro e w5 ⟨x,cx,y,cy,rfl,yF,zN,zV,zZ⟩;clear y0 y1 HC;go_wp2_with fail;refine(yP.o w5 zZ).mono ?_;rintro e w6 ⟨T,P',L',rs,rfl,yC,zS⟩;have z5:=zZ.size;have z6:=zS.size
     obtain⟨ta,tc,pa,pc,la,lc,rfl,rfl,rfl,_⟩:=yC.rows;have yH:Aw w6 w4.heap.size (.slice x ss.length cx) (.slice y tt.length cy) (.slice ta r.ks.length tc) (.slice pa r.ps.length pc) (.slice la r.ls.length lc) XN XN rs (Ht wd lim ss tt r):=
      Aw.of (Ar.own (Ad yF zS)) (Ar.own (Ad zN zS)) (fun g h1=>zV g h1) (n1:=w5.heap.size) (fun g hg=>by rcases hg with hg|hg;exact(Ac yF hg).2;exact(Ac zN hg).2) yC z5 (n2:=w6.heap.size) yC.lts (Ar.nil _ _) (Ar.nil _ _) (fun g hg=>by rcases hg with hg|hg<;>cases hg) z6 (fun g hg=>by cases hg)
     have yK:Hid (Xz w w6):=(zH.o.trans (zZ.mono zH.o.size)).trans (zS.mono (XI zH.o.size z5));have yJ:Hid (Aa w6 (w.heap.size+1) [XK,XK,XN,XN,XK,XK,XK,XK,XN,XN,XN,XK,XN,XN,XK,XK,XK]):=Aa.below (v:=XK) (Aa.below (v:=XK) zJ.o zZ) zS
     have zA:(#[XJ wd,XJ lim,.slice x ss.length cx,.slice y tt.length cy,XJ wd,XJ r.now,XJ r.given,XJ r.births,.slice ta r.ks.length tc,.slice pa r.ps.length pc,.slice la r.ls.length lc,XK,XN,XN,XK,XK,XK]:Array Value).all (·.oneCell')=true:=by simp[Value.oneCell']
     have zF:w6.there (w.heap.size+1) 0 17:=yJ.o.there;have zE:Hid _:=And.intro zA zF;obtain⟨W9,zC⟩:∃X,X=w6.setCells (w.heap.size+1) 0 [XJ wd,XJ lim,.slice x ss.length cx,.slice y tt.length cy,XJ wd,XJ r.now,XJ r.given,XJ r.births,.slice ta r.ks.length tc,.slice pa r.ps.length pc,.slice la r.ls.length lc,XK,XN,XN,XK,XK,XK]:=⟨_,rfl⟩
     have x9:Aa W9 (w.heap.size+1) [XJ wd,XJ lim,.slice x ss.length cx,.slice y tt.length cy,XJ wd,XJ r.now,XJ r.given,XJ r.births,.slice ta r.ks.length tc,.slice pa r.ps.length pc,.slice la r.ls.length lc,XK,XN,XN,XK,XK,XK]:=by rw[zC];exact yJ.o.setAll _ rfl
     have t9:Tn [w.heap.size+1] w6 W9:=by rw[zC];exact AL _ _ _ _
     have b9:Below w.heap.size w W9:=yK.o.trans (t9.below yK.o.size (by simp));have yR:Hid (Aw W9 w.heap.size (.slice x ss.length cx) (.slice y tt.length cy) (.slice ta r.ks.length tc) (.slice pa r.ps.length pc) (.slice la r.ls.length lc) XN XN rs (Ht wd lim ss tt r)):=(yH.stays t9 (fun g hg hin=>by have:=yH.lo g hin;simp at hg;omega)).mono (by omega);have zI:Hid _:=zC
     clear zA zF zC yH yC yF zN zV zZ zS t9 yP zJ yL zH;go_wp2_with (refine wpList_store_mid rfl 44 _ _ rfl (w.heap.size+1) 0 #[XJ wd,XJ lim,.slice x ss.length cx,.slice y tt.length cy,XJ wd,XJ r.now,XJ r.given,XJ r.births,.slice ta r.ks.length tc,.slice pa r.ps.length pc,.slice la r.ls.length lc,XK,XN,XN,XK,XK,XK] rfl rfl zE.o.2 (by kernel_rfl) zE.o.1 ?_);rw[←zI.o]
     refine bodyPost_ret (CN results21 _ _ (w.heap.size+1) [XJ wd,XJ lim,.slice x ss.length cx,.slice y tt.length cy,XJ wd,XJ r.now,XJ r.given,XJ r.births,.slice ta r.ks.length tc,.slice pa r.ps.length pc,.slice la r.ls.length lc,XK,XN,XN,XK,XK,XK] _ rfl rfl x9.range underlying44 rfl (by kernel_rfl)) rfl ?_;exact⟨0,Ht wd lim ss tt r,_,_,_,_,_,_,_,rs,yD.o,rfl,yR.o,b9⟩
   |false=>
    rw[hlog] at zU;have zR:Hid (El wd lim ss tt 1 v0):=.inl ⟨fun h=>by rw[hlog] at h;exact absurd h.2.2 (by simp),rfl,rfl⟩;go_enter func21,ntmps21;go_wp2_with fail;rw[←HW.o];refine Calls.mono zO.o ?_;rintro e w1 ⟨rfl,zB⟩;replace zB:=zB.symm;subst zB;go_wp2_with fail;refine Calls.mono zT.o ?_;rintro e w1 ⟨rfl,zB⟩;replace zB:=zB.symm;subst zB;go_wp2_with fail;refine Calls.mono zU.o ?_
    rintro e w4 ⟨rfl,zG⟩;have zJ:Hid (Aa w4 (w.heap.size+1) [XK,XK,XN,XN,XK,XK,XK,XK,XN,XN,XN,XK,XN,XN,XK,XK,XK]):=Aa.below (v:=XK) HZ.o zG;have zH:Hid (Xz w w4):=bW.trans (zG.mono bW.size);clear y0 y1 zG HX HZ;have zA:(#[XK,XK,XN,XN,XK,XK,XK,XK,XN,XN,XN,XK,XN,XN,XK,XK,XK]:Array Value).all (·.oneCell')=true:=by simp[Value.oneCell']
    have zF:w4.there (w.heap.size+1) 0 17:=(zJ.o).there;have zE:Hid _:=And.intro zA zF;obtain⟨W9,zC⟩:∃X,X=w4.setCells (w.heap.size+1) 0 [XK,XK,XN,XN,XK,XK,XK,XK,XN,XN,XN,XK,XN,XN,XK,XK,XK]:=⟨_,rfl⟩;have x9:Aa W9 (w.heap.size+1) [XK,XK,XN,XN,XK,XK,XK,XK,XN,XN,XN,XK,XN,XN,XK,XK,XK]:=by rw[zC];exact(zJ.o).setAll _ rfl
    have b9:Below w.heap.size w W9:=(zH.o).trans (by rw[zC];exact(AL _ _ _ _).below (zH.o).size (by simp));have zI:Hid _:=zC;clear zA zF zC;go_wp2_with (refine wpList_store_mid rfl 44 _ _ rfl (w.heap.size+1) 0 #[XK,XK,XN,XN,XK,XK,XK,XK,XN,XN,XN,XK,XN,XN,XK,XK,XK] rfl rfl zE.o.2 (by kernel_rfl) zE.o.1 ?_);rw[←zI.o]
    refine bodyPost_ret (CN results21 _ _ (w.heap.size+1) [XK,XK,XN,XN,XK,XK,XK,XK,XN,XN,XN,XK,XN,XN,XK,XK,XK] _ rfl rfl x9.range underlying44 rfl (by kernel_rfl)) rfl ?_;exact⟨1,v0,_,_,_,_,_,_,_,[],zR.o,rfl,Aw.nil _ _,b9⟩
  ·rw[decide_eq_false hlim] at zT
   have zR:Hid (El wd lim ss tt 1 v0):=.inl ⟨fun h=>hlim h.2.1,rfl,rfl⟩;go_enter func21,ntmps21;go_wp2_with fail;rw[←HW.o];refine Calls.mono zO.o ?_;rintro e w1 ⟨rfl,zB⟩;replace zB:=zB.symm;subst zB;go_wp2_with fail;refine Calls.mono zT.o ?_;rintro e w1 ⟨rfl,zB⟩;replace zB:=zB.symm;subst zB;clear y0 y1 HX
   have zA:(#[XK,XK,XN,XN,XK,XK,XK,XK,XN,XN,XN,XK,XN,XN,XK,XK,XK]:Array Value).all (·.oneCell')=true:=by simp[Value.oneCell']
   have zF:W.there (w.heap.size+1) 0 17:=(HZ.o).there;have zE:Hid _:=And.intro zA zF;obtain⟨W9,zC⟩:∃X,X=W.setCells (w.heap.size+1) 0 [XK,XK,XN,XN,XK,XK,XK,XK,XN,XN,XN,XK,XN,XN,XK,XK,XK]:=⟨_,rfl⟩;have x9:Aa W9 (w.heap.size+1) [XK,XK,XN,XN,XK,XK,XK,XK,XN,XN,XN,XK,XN,XN,XK,XK,XK]:=by rw[zC];exact(HZ.o).setAll _ rfl
   have b9:Below w.heap.size w W9:=(bW).trans (by rw[zC];exact(AL _ _ _ _).below (bW).size (by simp));have zI:Hid _:=zC;clear zA zF zC;go_wp2_with (refine wpList_store_mid rfl 44 _ _ rfl (w.heap.size+1) 0 #[XK,XK,XN,XN,XK,XK,XK,XK,XN,XN,XN,XK,XN,XN,XK,XK,XK] rfl rfl zE.o.2 (by kernel_rfl) zE.o.1 ?_);rw[←zI.o]
   refine bodyPost_ret (CN results21 _ _ (w.heap.size+1) [XK,XK,XN,XN,XK,XK,XK,XK,XN,XN,XN,XK,XN,XN,XK,XK,XK] _ rfl rfl x9.range underlying44 rfl (by kernel_rfl)) rfl ?_;exact⟨1,v0,_,_,_,_,_,_,_,[],zR.o,rfl,Aw.nil _ _,b9⟩
 ·rw[decide_eq_false hwd] at zO
  have zR:Hid (El wd lim ss tt 1 v0):=.inl ⟨fun h=>hwd h.1,rfl,rfl⟩;go_enter func21,ntmps21;go_wp2_with fail;rw[←HW.o];refine Calls.mono zO.o ?_;rintro e w1 ⟨rfl,zB⟩;replace zB:=zB.symm;subst zB;clear y0 y1 HX;have zA:(#[XK,XK,XN,XN,XK,XK,XK,XK,XN,XN,XN,XK,XN,XN,XK,XK,XK]:Array Value).all (·.oneCell')=true:=by simp[Value.oneCell']
  have zF:W.there (w.heap.size+1) 0 17:=(HZ.o).there;have zE:Hid _:=And.intro zA zF;obtain⟨W9,zC⟩:∃X,X=W.setCells (w.heap.size+1) 0 [XK,XK,XN,XN,XK,XK,XK,XK,XN,XN,XN,XK,XN,XN,XK,XK,XK]:=⟨_,rfl⟩;have x9:Aa W9 (w.heap.size+1) [XK,XK,XN,XN,XK,XK,XK,XK,XN,XN,XN,XK,XN,XN,XK,XK,XK]:=by rw[zC];exact(HZ.o).setAll _ rfl
  have b9:Below w.heap.size w W9:=(bW).trans (by rw[zC];exact(AL _ _ _ _).below (bW).size (by simp));have zI:Hid _:=zC;clear zA zF zC;go_wp2_with (refine wpList_store_mid rfl 44 _ _ rfl (w.heap.size+1) 0 #[XK,XK,XN,XN,XK,XK,XK,XK,XN,XN,XN,XK,XN,XN,XK,XK,XK] rfl rfl zE.o.2 (by kernel_rfl) zE.o.1 ?_);rw[←zI.o]
  refine bodyPost_ret (CN results21 _ _ (w.heap.size+1) [XK,XK,XN,XN,XK,XK,XK,XK,XN,XN,XN,XK,XN,XN,XK,XK,XK] _ rfl rfl x9.range underlying44 rfl (by kernel_rfl)) rfl ?_;exact⟨1,v0,_,_,_,_,_,_,_,[],zR.o,rfl,Aw.nil _ _,b9⟩
end Go.Proofs.YtpekbmegopfhfaaGreatDoor
