import Derived.Test.YtflhhhnlhlaehaaGreatDoorC21
import Derived.Lib.OwnKind
set_option maxRecDepth 100000
set_option maxHeartbeats 16000000
namespace Go.Proofs.YtflhhhnlhlaehaaGreatDoor
open Go.ChangeShapes Go.WideShapes Go.ChangeAt Go.RowKit _root_.Go.Proofs.Tryz
def v0:Vd:=⟨0,0,[],[],0,0,0,0,[],[],[],0,[],[],0,0,0⟩
def FW (wd lim:Int) (ss tt:List ByteArray) (r:Rs):Vd:=⟨wd,lim,ss,tt,wd,r.now,r.given,r.births,r.ks,r.ps,r.ls,0,[],[],0,0,0⟩
def IV (wd lim:Int) (ss tt:List ByteArray) (c:Int) (v:Vd):Prop:=
 (¬((1<=wd/\wd<=8)/\(0<=lim/\lim<=1000000)/\Cb ss tt=true)/\c=1/\v=v0)∨
 (((1<=wd/\wd<=8)/\(0<=lim/\lim<=1000000)/\Cb ss tt=true)/\(((∃n,Eg wd (ss++tt) n)/\c=2/\v=v0)∨(∃r,Cn wd r0 (ss++tt) r/\c=0/\v=FW wd lim ss tt r)))
theorem AV.nil (w:World) (base:Nat):AV w base (.slice none 0 0) (.slice none 0 0) (.slice none 0 0) (.slice none 0 0) (.slice none 0 0) (.slice none 0 0) (.slice none 0 0) [] v0:=
 ⟨Ar.nil _ _,Ar.nil _ _,⟨rfl,⟨rfl,.inl ⟨rfl,rfl⟩⟩,(fun i k r h=>by cases i<;>cases h),⟨rfl,.inl ⟨rfl,rfl⟩⟩,⟨rfl,.inl ⟨rfl,rfl⟩⟩,List.nodup_nil⟩,Ar.nil _ _,Ar.nil _ _,List.nodup_nil⟩
def Tr (wd lim:Int) (ss tt:List ByteArray) (w:World) (e:Ending) (w':World):Prop:=
 ∃(c:Int) (v:Vd) (S U T P L Q M:Value) (rs:List Value),IV wd lim ss tt c v/\e=.returned (.tuple #[.agg #[.int .i64 v.wd,.int .i64 v.lim,S,U,.int .i64 v.sw,.int .i64 v.now,.int .i64 v.given,.int .i64 v.births,T,P,L,.int .i64 v.ph,Q,M,.int .i64 v.top,.int .i64 v.at_,.int .i64 v.ro],.int .i64 c])/\AV w' w.heap.size S U T P L Q M rs v/\Uq w w'
theorem OG (wd lim:Int) (a b:Option Addr) (c d:Nat) (ss tt:List ByteArray) (w:World) (hr:Ad w w.heap.size a ss) (hq:Ad w w.heap.size b tt) (hl:ss.length<=1048576) (yM:tt.length<=1048576) (hs:∀s∈ss,s.size<=1048576) (ht:∀s∈tt,s.size<=1048576) (hE:Env w):
 Calls prog 5 #[.int .i64 wd,.int .i64 lim,.agg #[.slice a ss.length c,.slice b tt.length d]] w (Tr wd lim ss tt w):=by
 obtain⟨W,hW⟩:∃W,W=(w.alloc (.cells #[.slice a ss.length c,.slice b tt.length d] 27)).alloc (.cells #[.int .i64 0,.int .i64 0,.slice none 0 0,.slice none 0 0,.int .i64 0,.int .i64 0,.int .i64 0,.int .i64 0,.slice none 0 0,.slice none 0 0,.slice none 0 0,.int .i64 0,.slice none 0 0,.slice none 0 0,.int .i64 0,.int .i64 0,.int .i64 0] 36):=⟨_,rfl⟩;have bW:=(Ba hW).1;have zW:=(Ba hW).2.1
 have xW:=(Ba hW).2.2.1;have xZ:Aa W (w.heap.size+1) [.int .i64 0,.int .i64 0,.slice none 0 0,.slice none 0 0,.int .i64 0,.int .i64 0,.int .i64 0,.int .i64 0,.slice none 0 0,.slice none 0 0,.slice none 0 0,.int .i64 0,.slice none 0 0,.slice none 0 0,.int .i64 0,.int .i64 0,.int .i64 0]:=by
  have h1:=Aa.new (w.alloc (.cells #[.slice a ss.length c,.slice b tt.length d] 27)) [.int .i64 0,.int .i64 0,.slice none 0 0,.slice none 0 0,.int .i64 0,.int .i64 0,.int .i64 0,.int .i64 0,.slice none 0 0,.slice none 0 0,.slice none 0 0,.int .i64 0,.slice none 0 0,.slice none 0 0,.int .i64 0,.int .i64 0,.int .i64 0] 36;rw[World.size_alloc] at h1;rw[hW];exact h1
 have HX:Hid (Aa W _ _):=(Ba hW).2.2.1;have HZ:Hid (Aa W (w.heap.size+1) [.int .i64 0,.int .i64 0,.slice none 0 0,.slice none 0 0,.int .i64 0,.int .i64 0,.int .i64 0,.int .i64 0,.slice none 0 0,.slice none 0 0,.slice none 0 0,.int .i64 0,.slice none 0 0,.slice none 0 0,.int .i64 0,.int .i64 0,.int .i64 0]):=xZ
 have HR:Hid (∀X,Uq w X->Ad X X.heap.size a ss/\Ad X X.heap.size b tt):=fun X hX=>⟨hr.below' hX,hq.below' hX⟩;have HW:Hid _:=hW;have zK:Hid _:=It wd W;have zP:Hid _:=IT lim W;have zR:Hid _:=DG a b c d ss tt W (hr.below' bW) (hq.below' bW) hl yM hs ht;obtain⟨y0,y1⟩:=Aa.c2 xW 0 1;clear hW xW xZ hr hq;by_cases hwd:1<=wd/\wd<=8
 ·rw[decide_eq_true hwd] at zK
  by_cases hlim:0<=lim/\lim<=1000000
  ·rw[decide_eq_true hlim] at zP
   cases hlog:Cb ss tt with
   |true=>
    rw[hlog] at zR;have yN:=FU hlog;have yP:ss.length<=4000:=by rw[List.length_append] at yN;omega
    have yQ:tt.length<=4000:=by rw[List.length_append] at yN;omega
    have HP:Hid (∀X,Uq w X->Calls prog 19 #[.int .i64 wd,.func (.func 21) #[.agg #[.slice a ss.length c,.slice b tt.length d]] #[]] X fun e w'=>Uq X w'/\((∃n:Nat,Eg wd (ss++tt) n/\e=.returned (.tuple #[.pointer none,.int .i64 n]))∨(∃r d m O P L base,Cn wd r0 (ss++tt) r/\e=.returned (.tuple #[.pointer (some ⟨d,0,none⟩),.int .i64 0])/\Dr w' base d m O P L wd r.now r.given r.births r.ks r.ps r.ls/\(X.heap.size<=base/\base+4<=m)))):=fun X hX=>
     IS wd 21 #[.agg #[.slice a ss.length c,.slice b tt.length d]] #[] (ss++tt) X hwd.1 hwd.2 (by omega) (fun s hx=>by rcases List.mem_append.1 hx with h|h;exact hs s h;exact ht s h) (hE.below hX) (enters_of func21 (by kernel_rfl) rfl) (fun V hV=>by
      have hb:=hX.trans (hV.mono hX.size);have h1:=Ie a b c d ss tt X.heap.size V (((HR.o X hX).1).below hV) (((HR.o X hX).2).below hV) hV.size (by unfold maxLen;omega) (by unfold maxLen;omega);simpa using h1)
    have HG:Hid ((1<=wd/\wd<=8)/\(0<=lim/\lim<=1000000)/\Cb ss tt=true):=⟨hwd,hlim,hlog⟩;clear hE hs ht;go_enter func5,ntmps5;go_wp2_with fail;rw[←HW.o];refine Calls.mono zK.o ?_;rintro e w1 ⟨rfl,zB⟩;replace zB:=zB.symm;subst zB;go_wp2_with fail;refine Calls.mono zP.o ?_;rintro e w1 ⟨rfl,zB⟩;replace zB:=zB.symm;subst zB;go_wp2_with fail;refine Calls.mono zR.o ?_;rintro e w2 ⟨rfl,zS⟩
    have x2:=Aa.below HX.o zS;have yI:Hid (Aa w2 w.heap.size [.slice a ss.length c,.slice b tt.length d]):=x2
    have yK:Hid (Aa w2 (w.heap.size+1) [.int .i64 0,.int .i64 0,.slice none 0 0,.slice none 0 0,.int .i64 0,.int .i64 0,.int .i64 0,.int .i64 0,.slice none 0 0,.slice none 0 0,.slice none 0 0,.int .i64 0,.slice none 0 0,.slice none 0 0,.int .i64 0,.int .i64 0,.int .i64 0]):=Aa.below (v:=.int .i64 0) HZ.o zS;have z2:w.heap.size+2<=w2.heap.size:=by have:=zS.size;omega
    have yA:Hid (Uq w w2):=bW.trans (zS.mono bW.size);clear y0 y1 zK zP zR zS HW HX HZ;obtain⟨y0,y1⟩:=Aa.c2 x2 0 1;clear x2;go_wp2_with fail;refine(Eh a b ss.length tt.length c d w2).mono ?_;rintro e w3 ⟨rfl,zT⟩;have yB:Hid (Aa w3 w.heap.size [.slice a ss.length c,.slice b tt.length d]):=Aa.below yI.o zT
    have zY:Hid (Aa w3 (w.heap.size+1) [.int .i64 0,.int .i64 0,.slice none 0 0,.slice none 0 0,.int .i64 0,.int .i64 0,.int .i64 0,.int .i64 0,.slice none 0 0,.slice none 0 0,.slice none 0 0,.int .i64 0,.slice none 0 0,.slice none 0 0,.int .i64 0,.int .i64 0,.int .i64 0]):=Aa.below (v:=.int .i64 0) yK.o zT;have z3:=zT.size;have zJ:Hid (Uq w w3):=yA.o.trans (zT.mono yA.o.size)
    clear y0 y1 zT yI yK yA;go_wp2_with fail;refine(HP.o w3 zJ.o).mono ?_;rintro e w4 ⟨zG,⟨n,yE,rfl⟩|⟨r,dd,m,O,P,L,base,zO,rfl,Bz,zV⟩⟩
    ·have zI:Hid (Aa w4 (w.heap.size+1) [.int .i64 0,.int .i64 0,.slice none 0 0,.slice none 0 0,.int .i64 0,.int .i64 0,.int .i64 0,.int .i64 0,.slice none 0 0,.slice none 0 0,.slice none 0 0,.int .i64 0,.slice none 0 0,.slice none 0 0,.int .i64 0,.int .i64 0,.int .i64 0]):=Aa.below (v:=.int .i64 0) zY.o zG
     have zF:Hid (Uq w w4):=zJ.o.trans (zG.mono zJ.o.size);have yR:0<(n:Int):=by obtain⟨j,_,_,rfl,_⟩:=yE;omega
     have zL:Hid (IV wd lim ss tt 2 v0):=.inr ⟨HG.o,.inl ⟨⟨n,yE⟩,rfl,rfl⟩⟩;clear yE yB zY zJ HP HR zG
     have zA:(#[.int .i64 0,.int .i64 0,.slice none 0 0,.slice none 0 0,.int .i64 0,.int .i64 0,.int .i64 0,.int .i64 0,.slice none 0 0,.slice none 0 0,.slice none 0 0,.int .i64 0,.slice none 0 0,.slice none 0 0,.int .i64 0,.int .i64 0,.int .i64 0]:Array Value).all (·.oneCell')=true:=by simp[Value.oneCell']
     have zE:w4.there (w.heap.size+1) 0 17:=(zI.o).there;have zD:Hid _:=And.intro zA zE;obtain⟨W9,zC⟩:∃X,X=w4.setCells (w.heap.size+1) 0 [.int .i64 0,.int .i64 0,.slice none 0 0,.slice none 0 0,.int .i64 0,.int .i64 0,.int .i64 0,.int .i64 0,.slice none 0 0,.slice none 0 0,.slice none 0 0,.int .i64 0,.slice none 0 0,.slice none 0 0,.int .i64 0,.int .i64 0,.int .i64 0]:=⟨_,rfl⟩
     have x9:Aa W9 (w.heap.size+1) [.int .i64 0,.int .i64 0,.slice none 0 0,.slice none 0 0,.int .i64 0,.int .i64 0,.int .i64 0,.int .i64 0,.slice none 0 0,.slice none 0 0,.slice none 0 0,.int .i64 0,.slice none 0 0,.slice none 0 0,.int .i64 0,.int .i64 0,.int .i64 0]:=by rw[zC];exact(zI.o).setAll _ rfl
     have b9:Below w.heap.size w W9:=(zF.o).trans (by rw[zC];exact(AB _ _ _ _).below (zF.o).size (by simp));have zH:Hid _:=zC;clear zA zE zC
     go_wp2_with (refine wpList_store_mid rfl 36 _ _ rfl (w.heap.size+1) 0 #[.int .i64 0,.int .i64 0,.slice none 0 0,.slice none 0 0,.int .i64 0,.int .i64 0,.int .i64 0,.int .i64 0,.slice none 0 0,.slice none 0 0,.slice none 0 0,.int .i64 0,.slice none 0 0,.slice none 0 0,.int .i64 0,.int .i64 0,.int .i64 0] rfl rfl zD.o.2 (by kernel_rfl) zD.o.1 ?_);rw[←zH.o]
     refine bodyPost_ret (Dm results5 _ _ (w.heap.size+1) [.int .i64 0,.int .i64 0,.slice none 0 0,.slice none 0 0,.int .i64 0,.int .i64 0,.int .i64 0,.int .i64 0,.slice none 0 0,.slice none 0 0,.slice none 0 0,.int .i64 0,.slice none 0 0,.slice none 0 0,.int .i64 0,.int .i64 0,.int .i64 0] _ rfl rfl x9.range underlying36 rfl (by kernel_rfl)) rfl ?_
     exact⟨2,v0,_,_,_,_,_,_,_,[],zL.o,rfl,AV.nil _ _,b9⟩
    ·have yJ:Hid (Aa w4 w.heap.size [.slice a ss.length c,.slice b tt.length d]):=Aa.below yB.o zG
     have zI:Hid (Aa w4 (w.heap.size+1) [.int .i64 0,.int .i64 0,.slice none 0 0,.slice none 0 0,.int .i64 0,.int .i64 0,.int .i64 0,.int .i64 0,.slice none 0 0,.slice none 0 0,.slice none 0 0,.int .i64 0,.slice none 0 0,.slice none 0 0,.int .i64 0,.int .i64 0,.int .i64 0]):=Aa.below (v:=.int .i64 0) zY.o zG;have zF:Hid (Uq w w4):=zJ.o.trans (zG.mono zJ.o.size);have zN:=zO.ok (Fm hwd.1 hwd.2)
     have yC:Hid (IV wd lim ss tt 0 (FW wd lim ss tt r)):=.inr ⟨HG.o,.inr ⟨r,zO,rfl,rfl⟩⟩;have yH:Hid (∀X,Uq w4 X->Calls prog 23 #[.pointer (some ⟨dd,0,none⟩)] X fun e w'=>∃T P' L' rs,e=.returned (.agg #[.int .i64 wd,.int .i64 r.now,.int .i64 r.given,.int .i64 r.births,T,P',L'])/\Bk w' X.heap.size T P' L' rs r.ks r.ps r.ls/\Uq X w'):=fun X hX=>
      Fh base dd m O P L wd r.now r.given r.births r.ks r.ps r.ls X (Bz.below hX) zN.kso.nd zN.kso.sz zN.kso.len zN.np zN.nl zN.r30
     have HC:Hid _:=Ge a b c d ss tt w4 (HR.o w4 zF.o).1 (HR.o w4 zF.o).2 hl yM;have z4:=zG.size;obtain⟨y0,y1⟩:=Aa.c2 yJ.o 0 1;clear zO Bz zN zV zG yB zY zJ HP HR HG;go_wp2_with fail;refine Calls.mono HC.o ?_;rintro e w5 ⟨x,cx,y,cy,rfl,yF,zM,zX,zU⟩;clear y0 y1 HC;go_wp2_with fail;refine(yH.o w5 zU).mono ?_;rintro e w6 ⟨T,P',L',rs,rfl,zZ,zQ⟩;have z5:=zU.size;have z6:=zQ.size
     obtain⟨ta,tc,pa,pc,la,lc,rfl,rfl,rfl,_⟩:=zZ.rows;have yD:AV w6 w4.heap.size (.slice x ss.length cx) (.slice y tt.length cy) (.slice ta r.ks.length tc) (.slice pa r.ps.length pc) (.slice la r.ls.length lc) (.slice none 0 0) (.slice none 0 0) rs (FW wd lim ss tt r):=
      AV.of (Ar.own (Ag yF zQ)) (Ar.own (Ag zM zQ)) (fun g h1=>zX g h1) (n1:=w5.heap.size) (fun g hg=>by rcases hg with hg|hg;exact(Af yF hg).2;exact(Af zM hg).2) zZ z5 (n2:=w6.heap.size) zZ.lts (Ar.nil _ _) (Ar.nil _ _) (fun g hg=>by rcases hg with hg|hg<;>cases hg) z6 (fun g hg=>by cases hg)
     have yG:Hid (Uq w w6):=(zF.o.trans (zU.mono zF.o.size)).trans (zQ.mono (Uz zF.o.size z5))
     have yL:Hid (Aa w6 (w.heap.size+1) [.int .i64 0,.int .i64 0,.slice none 0 0,.slice none 0 0,.int .i64 0,.int .i64 0,.int .i64 0,.int .i64 0,.slice none 0 0,.slice none 0 0,.slice none 0 0,.int .i64 0,.slice none 0 0,.slice none 0 0,.int .i64 0,.int .i64 0,.int .i64 0]):=Aa.below (v:=.int .i64 0) (Aa.below (v:=.int .i64 0) zI.o zU) zQ
     have zA:(#[.int .i64 wd,.int .i64 lim,.slice x ss.length cx,.slice y tt.length cy,.int .i64 wd,.int .i64 r.now,.int .i64 r.given,.int .i64 r.births,.slice ta r.ks.length tc,.slice pa r.ps.length pc,.slice la r.ls.length lc,.int .i64 0,.slice none 0 0,.slice none 0 0,.int .i64 0,.int .i64 0,.int .i64 0]:Array Value).all (·.oneCell')=true:=by simp[Value.oneCell']
     have zE:w6.there (w.heap.size+1) 0 17:=yL.o.there;have zD:Hid _:=And.intro zA zE
     obtain⟨W9,zC⟩:∃X,X=w6.setCells (w.heap.size+1) 0 [.int .i64 wd,.int .i64 lim,.slice x ss.length cx,.slice y tt.length cy,.int .i64 wd,.int .i64 r.now,.int .i64 r.given,.int .i64 r.births,.slice ta r.ks.length tc,.slice pa r.ps.length pc,.slice la r.ls.length lc,.int .i64 0,.slice none 0 0,.slice none 0 0,.int .i64 0,.int .i64 0,.int .i64 0]:=⟨_,rfl⟩
     have x9:Aa W9 (w.heap.size+1) [.int .i64 wd,.int .i64 lim,.slice x ss.length cx,.slice y tt.length cy,.int .i64 wd,.int .i64 r.now,.int .i64 r.given,.int .i64 r.births,.slice ta r.ks.length tc,.slice pa r.ps.length pc,.slice la r.ls.length lc,.int .i64 0,.slice none 0 0,.slice none 0 0,.int .i64 0,.int .i64 0,.int .i64 0]:=by rw[zC];exact yL.o.setAll _ rfl
     have t9:Tn [w.heap.size+1] w6 W9:=by rw[zC];exact AB _ _ _ _
     have b9:Below w.heap.size w W9:=yG.o.trans (t9.below yG.o.size (by simp));have yO:Hid (AV W9 w.heap.size (.slice x ss.length cx) (.slice y tt.length cy) (.slice ta r.ks.length tc) (.slice pa r.ps.length pc) (.slice la r.ls.length lc) (.slice none 0 0) (.slice none 0 0) rs (FW wd lim ss tt r)):=(yD.stays t9 (fun g hg hin=>by have:=yD.lo g hin;simp at hg;omega)).mono (by omega)
     have zH:Hid _:=zC;clear zA zE zC yD zZ yF zM zX zU zQ t9 yH zI yJ zF
     go_wp2_with (refine wpList_store_mid rfl 36 _ _ rfl (w.heap.size+1) 0 #[.int .i64 wd,.int .i64 lim,.slice x ss.length cx,.slice y tt.length cy,.int .i64 wd,.int .i64 r.now,.int .i64 r.given,.int .i64 r.births,.slice ta r.ks.length tc,.slice pa r.ps.length pc,.slice la r.ls.length lc,.int .i64 0,.slice none 0 0,.slice none 0 0,.int .i64 0,.int .i64 0,.int .i64 0] rfl rfl zD.o.2 (by kernel_rfl) zD.o.1 ?_)
     rw[←zH.o]
     refine bodyPost_ret (Dm results5 _ _ (w.heap.size+1) [.int .i64 wd,.int .i64 lim,.slice x ss.length cx,.slice y tt.length cy,.int .i64 wd,.int .i64 r.now,.int .i64 r.given,.int .i64 r.births,.slice ta r.ks.length tc,.slice pa r.ps.length pc,.slice la r.ls.length lc,.int .i64 0,.slice none 0 0,.slice none 0 0,.int .i64 0,.int .i64 0,.int .i64 0] _ rfl rfl x9.range underlying36 rfl (by kernel_rfl)) rfl ?_
     exact⟨0,FW wd lim ss tt r,_,_,_,_,_,_,_,rs,yC.o,rfl,yO.o,b9⟩
   |false=>
    rw[hlog] at zR;have zL:Hid (IV wd lim ss tt 1 v0):=.inl ⟨fun h=>by rw[hlog] at h;exact absurd h.2.2 (by simp),rfl,rfl⟩;go_enter func5,ntmps5;go_wp2_with fail;rw[←HW.o];refine Calls.mono zK.o ?_;rintro e w1 ⟨rfl,zB⟩;replace zB:=zB.symm;subst zB;go_wp2_with fail;refine Calls.mono zP.o ?_;rintro e w1 ⟨rfl,zB⟩;replace zB:=zB.symm;subst zB;go_wp2_with fail;refine Calls.mono zR.o ?_
    rintro e w4 ⟨rfl,zG⟩;have zI:Hid (Aa w4 (w.heap.size+1) [.int .i64 0,.int .i64 0,.slice none 0 0,.slice none 0 0,.int .i64 0,.int .i64 0,.int .i64 0,.int .i64 0,.slice none 0 0,.slice none 0 0,.slice none 0 0,.int .i64 0,.slice none 0 0,.slice none 0 0,.int .i64 0,.int .i64 0,.int .i64 0]):=Aa.below (v:=.int .i64 0) HZ.o zG;have zF:Hid (Uq w w4):=bW.trans (zG.mono bW.size)
    clear y0 y1 zG HX HZ;have zA:(#[.int .i64 0,.int .i64 0,.slice none 0 0,.slice none 0 0,.int .i64 0,.int .i64 0,.int .i64 0,.int .i64 0,.slice none 0 0,.slice none 0 0,.slice none 0 0,.int .i64 0,.slice none 0 0,.slice none 0 0,.int .i64 0,.int .i64 0,.int .i64 0]:Array Value).all (·.oneCell')=true:=by simp[Value.oneCell']
    have zE:w4.there (w.heap.size+1) 0 17:=(zI.o).there;have zD:Hid _:=And.intro zA zE;obtain⟨W9,zC⟩:∃X,X=w4.setCells (w.heap.size+1) 0 [.int .i64 0,.int .i64 0,.slice none 0 0,.slice none 0 0,.int .i64 0,.int .i64 0,.int .i64 0,.int .i64 0,.slice none 0 0,.slice none 0 0,.slice none 0 0,.int .i64 0,.slice none 0 0,.slice none 0 0,.int .i64 0,.int .i64 0,.int .i64 0]:=⟨_,rfl⟩
    have x9:Aa W9 (w.heap.size+1) [.int .i64 0,.int .i64 0,.slice none 0 0,.slice none 0 0,.int .i64 0,.int .i64 0,.int .i64 0,.int .i64 0,.slice none 0 0,.slice none 0 0,.slice none 0 0,.int .i64 0,.slice none 0 0,.slice none 0 0,.int .i64 0,.int .i64 0,.int .i64 0]:=by rw[zC];exact(zI.o).setAll _ rfl
    have b9:Below w.heap.size w W9:=(zF.o).trans (by rw[zC];exact(AB _ _ _ _).below (zF.o).size (by simp));have zH:Hid _:=zC;clear zA zE zC
    go_wp2_with (refine wpList_store_mid rfl 36 _ _ rfl (w.heap.size+1) 0 #[.int .i64 0,.int .i64 0,.slice none 0 0,.slice none 0 0,.int .i64 0,.int .i64 0,.int .i64 0,.int .i64 0,.slice none 0 0,.slice none 0 0,.slice none 0 0,.int .i64 0,.slice none 0 0,.slice none 0 0,.int .i64 0,.int .i64 0,.int .i64 0] rfl rfl zD.o.2 (by kernel_rfl) zD.o.1 ?_);rw[←zH.o]
    refine bodyPost_ret (Dm results5 _ _ (w.heap.size+1) [.int .i64 0,.int .i64 0,.slice none 0 0,.slice none 0 0,.int .i64 0,.int .i64 0,.int .i64 0,.int .i64 0,.slice none 0 0,.slice none 0 0,.slice none 0 0,.int .i64 0,.slice none 0 0,.slice none 0 0,.int .i64 0,.int .i64 0,.int .i64 0] _ rfl rfl x9.range underlying36 rfl (by kernel_rfl)) rfl ?_
    exact⟨1,v0,_,_,_,_,_,_,_,[],zL.o,rfl,AV.nil _ _,b9⟩
  ·rw[decide_eq_false hlim] at zP
   have zL:Hid (IV wd lim ss tt 1 v0):=.inl ⟨fun h=>hlim h.2.1,rfl,rfl⟩;go_enter func5,ntmps5;go_wp2_with fail;rw[←HW.o];refine Calls.mono zK.o ?_;rintro e w1 ⟨rfl,zB⟩;replace zB:=zB.symm;subst zB;go_wp2_with fail;refine Calls.mono zP.o ?_;rintro e w1 ⟨rfl,zB⟩;replace zB:=zB.symm;subst zB;clear y0 y1 HX
   have zA:(#[.int .i64 0,.int .i64 0,.slice none 0 0,.slice none 0 0,.int .i64 0,.int .i64 0,.int .i64 0,.int .i64 0,.slice none 0 0,.slice none 0 0,.slice none 0 0,.int .i64 0,.slice none 0 0,.slice none 0 0,.int .i64 0,.int .i64 0,.int .i64 0]:Array Value).all (·.oneCell')=true:=by simp[Value.oneCell']
   have zE:W.there (w.heap.size+1) 0 17:=(HZ.o).there;have zD:Hid _:=And.intro zA zE;obtain⟨W9,zC⟩:∃X,X=W.setCells (w.heap.size+1) 0 [.int .i64 0,.int .i64 0,.slice none 0 0,.slice none 0 0,.int .i64 0,.int .i64 0,.int .i64 0,.int .i64 0,.slice none 0 0,.slice none 0 0,.slice none 0 0,.int .i64 0,.slice none 0 0,.slice none 0 0,.int .i64 0,.int .i64 0,.int .i64 0]:=⟨_,rfl⟩
   have x9:Aa W9 (w.heap.size+1) [.int .i64 0,.int .i64 0,.slice none 0 0,.slice none 0 0,.int .i64 0,.int .i64 0,.int .i64 0,.int .i64 0,.slice none 0 0,.slice none 0 0,.slice none 0 0,.int .i64 0,.slice none 0 0,.slice none 0 0,.int .i64 0,.int .i64 0,.int .i64 0]:=by rw[zC];exact(HZ.o).setAll _ rfl
   have b9:Below w.heap.size w W9:=(bW).trans (by rw[zC];exact(AB _ _ _ _).below (bW).size (by simp));have zH:Hid _:=zC;clear zA zE zC
   go_wp2_with (refine wpList_store_mid rfl 36 _ _ rfl (w.heap.size+1) 0 #[.int .i64 0,.int .i64 0,.slice none 0 0,.slice none 0 0,.int .i64 0,.int .i64 0,.int .i64 0,.int .i64 0,.slice none 0 0,.slice none 0 0,.slice none 0 0,.int .i64 0,.slice none 0 0,.slice none 0 0,.int .i64 0,.int .i64 0,.int .i64 0] rfl rfl zD.o.2 (by kernel_rfl) zD.o.1 ?_);rw[←zH.o]
   refine bodyPost_ret (Dm results5 _ _ (w.heap.size+1) [.int .i64 0,.int .i64 0,.slice none 0 0,.slice none 0 0,.int .i64 0,.int .i64 0,.int .i64 0,.int .i64 0,.slice none 0 0,.slice none 0 0,.slice none 0 0,.int .i64 0,.slice none 0 0,.slice none 0 0,.int .i64 0,.int .i64 0,.int .i64 0] _ rfl rfl x9.range underlying36 rfl (by kernel_rfl)) rfl ?_
   exact⟨1,v0,_,_,_,_,_,_,_,[],zL.o,rfl,AV.nil _ _,b9⟩
 ·rw[decide_eq_false hwd] at zK
  have zL:Hid (IV wd lim ss tt 1 v0):=.inl ⟨fun h=>hwd h.1,rfl,rfl⟩;go_enter func5,ntmps5;go_wp2_with fail;rw[←HW.o];refine Calls.mono zK.o ?_;rintro e w1 ⟨rfl,zB⟩;replace zB:=zB.symm;subst zB;clear y0 y1 HX
  have zA:(#[.int .i64 0,.int .i64 0,.slice none 0 0,.slice none 0 0,.int .i64 0,.int .i64 0,.int .i64 0,.int .i64 0,.slice none 0 0,.slice none 0 0,.slice none 0 0,.int .i64 0,.slice none 0 0,.slice none 0 0,.int .i64 0,.int .i64 0,.int .i64 0]:Array Value).all (·.oneCell')=true:=by simp[Value.oneCell']
  have zE:W.there (w.heap.size+1) 0 17:=(HZ.o).there;have zD:Hid _:=And.intro zA zE;obtain⟨W9,zC⟩:∃X,X=W.setCells (w.heap.size+1) 0 [.int .i64 0,.int .i64 0,.slice none 0 0,.slice none 0 0,.int .i64 0,.int .i64 0,.int .i64 0,.int .i64 0,.slice none 0 0,.slice none 0 0,.slice none 0 0,.int .i64 0,.slice none 0 0,.slice none 0 0,.int .i64 0,.int .i64 0,.int .i64 0]:=⟨_,rfl⟩
  have x9:Aa W9 (w.heap.size+1) [.int .i64 0,.int .i64 0,.slice none 0 0,.slice none 0 0,.int .i64 0,.int .i64 0,.int .i64 0,.int .i64 0,.slice none 0 0,.slice none 0 0,.slice none 0 0,.int .i64 0,.slice none 0 0,.slice none 0 0,.int .i64 0,.int .i64 0,.int .i64 0]:=by rw[zC];exact(HZ.o).setAll _ rfl
  have b9:Below w.heap.size w W9:=(bW).trans (by rw[zC];exact(AB _ _ _ _).below (bW).size (by simp));have zH:Hid _:=zC;clear zA zE zC
  go_wp2_with (refine wpList_store_mid rfl 36 _ _ rfl (w.heap.size+1) 0 #[.int .i64 0,.int .i64 0,.slice none 0 0,.slice none 0 0,.int .i64 0,.int .i64 0,.int .i64 0,.int .i64 0,.slice none 0 0,.slice none 0 0,.slice none 0 0,.int .i64 0,.slice none 0 0,.slice none 0 0,.int .i64 0,.int .i64 0,.int .i64 0] rfl rfl zD.o.2 (by kernel_rfl) zD.o.1 ?_);rw[←zH.o]
  refine bodyPost_ret (Dm results5 _ _ (w.heap.size+1) [.int .i64 0,.int .i64 0,.slice none 0 0,.slice none 0 0,.int .i64 0,.int .i64 0,.int .i64 0,.int .i64 0,.slice none 0 0,.slice none 0 0,.slice none 0 0,.int .i64 0,.slice none 0 0,.slice none 0 0,.int .i64 0,.int .i64 0,.int .i64 0] _ rfl rfl x9.range underlying36 rfl (by kernel_rfl)) rfl ?_
  exact⟨1,v0,_,_,_,_,_,_,_,[],zL.o,rfl,AV.nil _ _,b9⟩
structure Ts (ss tt:List ByteArray):Prop where
 s:ss.length<=1048576
 t:tt.length<=1048576
 ss:∀s∈ss,s.size<=1048576
 tt:∀s∈tt,s.size<=1048576
def Uj (ss tt:List ByteArray) (L:Nat) (X:World) (cs:List Value):Prop:=
 ∃g k c d,cs=[.slice (some ⟨g,0,none⟩) ss.length c,.slice (some ⟨k,0,none⟩) tt.length d]/\Ad X L (some ⟨g,0,none⟩) ss/\Ad X L (some ⟨k,0,none⟩) tt
def Uk (ss tt:List ByteArray) (lo N:Nat) (X:World) (cs:List Value):Prop:=
 (N<=X.heap.size/\lo<=X.heap.size)/\∃g k c d,cs=[.slice (some ⟨g,0,none⟩) ss.length c,.slice (some ⟨k,0,none⟩) tt.length d]/\Ar X lo (.slice (some ⟨g,0,none⟩) ss.length c) ss/\Ar X lo (.slice (some ⟨k,0,none⟩) tt.length d) tt/\g≠k/\g<N/\k<N
theorem Ar.got {w:World} {base n c:Nat} {a:Option Addr} {ss:List ByteArray} (h:Ar w base (.slice a n c) ss):Ad w w.heap.size a ss:=by
 obtain⟨a',c',e,hr⟩:=h.row;cases e;exact hr
section
attribute [local go_sem] Oper.semAt_some
theorem DD.below {P:Program} {gf:Nat} {ar:Nat->Array Value} {xs:List ByteArray} {n0:Nat} {w w1:World} (h:DD P gf ar xs n0 w) (hb:Uq w w1):DD P gf ar xs n0 w1:=
 fun l J Jx W hW=>h l J Jx W (hb.trans (hW.mono hb.size))
theorem No (B base bx:Nat) (t:TypeId) (k:Nat->Nat) (f:Nat->List Value) (zB:bx<B):Bm B (fun n W=>∃v,Boxed W bx t v/\W.ownsRow base 9 1 v (k n) (f n)):=by
 rintro n W W' row ⟨v,hv,hr⟩ hg zA;refine⟨v,hv.kept hg (fun e=>by have:=(zA bx e.symm).1;omega),hr.kept hg ?_⟩;cases hb:v.ownBlock with
 |none=>exact .inl rfl
 |some r=>
  refine .inr fun e=> ?_;obtain⟨c,fz,hc⟩:=Lib.ownsRow_kind hr r hb;obtain⟨_,o,ho,hn⟩:=zA r e.symm;rw[hc] at ho;cases ho;simp[AO] at hn
theorem KC (gf:Nat) (recv:Value) (eg:∀args w,(callFunc gf args).run prog w=.ok (.enter gf args) w) (xs:List ByteArray) (n0:Nat) (w:World)
 (zD:DD prog gf (fun l=> #[recv,.func (.yield l) #[] #[]]) xs n0 w) (zJ:n0<=w.heap.size) (hl:xs.length<=2097152):
 Calls prog 138 #[.slice none 0 0,.func (.func gf) #[recv] #[]] w fun e w'=>∃v,e=.returned v/\w'.ownsRow w.heap.size 9 1 v xs.length (xs.map Value.string)/\Uq w w':=by
 obtain⟨i0,hi,zL,zM,zN⟩:=info_parts Cv;refine(callsIn_wide (n:=3)).1 ?_;refine callsIn_of_wp_marks func138 rfl trivial ?_ rfl;simp only[ntmps138,List.size_toArray,List.length_cons,List.length_nil,Nat.reduceAdd,Nat.reduceSub,Array.replicate_succ,Array.replicate_zero,List.push_toArray,List.append_toArray,List.nil_append,List.cons_append]
 gi_wp2_with fail
 have bO:=Boxed.new w 25 (.slice none 0 0);have zF:Below w.heap.size w (w.alloc (.cells #[.slice none 0 0] 25)):=(Below.refl _ w).alloc (Us) _;refine Fa (gf:=gf) (pre:= #[recv]) (lb:= #[]) rfl eg (xs:=xs) (n0:=n0) (by simpa using zD.below zF) (by simp;omega) rfl
  (fun k V=>(∃v,Boxed V w.heap.size 25 v/\V.ownsRow w.heap.size 9 1 v (xs.take k).length ((xs.take k).map Value.string))/\Uq w V)
  (fun _ _=>False)
  ((No _ _ _ _ (fun k=>(xs.take k).length) (fun k=>(xs.take k).map Value.string) (by simp)).and (CF w (Us) (by simp)))
  (fun _ _ _ _ h _ _=>h)
  ⟨⟨_,bO,World.ownsRow_nil _ _ _ _⟩,zF⟩ (fun s=>{tmps:= #[.slice none 0 0,.func (.func gf) #[recv] #[],.pointer (some ⟨w.heap.size,0,none⟩),undef,.slice none 0 0,.string s,.func (.func gf) #[recv] #[],.string s,undef,undef,undef,undef,undef],defers:=[]}) ?assign ?body ?done ?stop
 case assign=>
  intro l2 m2 s V K hK
  gi_wp2
  exact hK
 case body=>
  rintro l2 m2 k s W zE ⟨⟨v,hv,zB⟩,hB⟩ zR;have hc:=hv.cell;have zG:(xs.take k).length=k:=by have:=(Ut zE).1;simp;omega
  have zQ:k<xs.length:=(Ut zE).1;have zK:(xs.take (k+1))=xs.take k++[s]:=by
   obtain⟨zI,rfl⟩:=Ut zE;exact Uv zI
  gi_wp2_with (gi_at_builtin;refine wpListIn_append_own _ rfl _ _ 25 rfl w.heap.size 9 i0 (.string ⟨#[]⟩) 1 16 underlying25 hi zL zM zN rfl (by decide) _ _ _ rfl (zB.alloc _) ⟨W.heap.size,0,none⟩ 1 1 [.string s] rfl rfl (cell_one_new _ _ _) (by simp[Value.oneCell']) (by unfold maxLen;omega) (by omega) (by have:=hB.size;simp;omega) ?_;intro v' w1 zC zA _;obtain⟨g',cap',rfl⟩:=ownsRow_succ zC;obtain⟨hv1,hv2,hr2,hk2,hb2⟩:=hv.appended (by decide) zB hB.size (Us) zC zA;have zO:=hv1.cell;have zP:=hv1.frozen)
  rw[zG] at hv2 hr2 hb2;refine⟨⟨Uz (Uz (by simp) zA.size) (by simp),fun q o hq ho hn=> ?_⟩,⟨⟨_,hv2,?_⟩,hB.trans hb2⟩,hb2.mono zJ⟩
  ·simp at hq
   have zH:q<W.heap.size:=(Array.getElem?_eq_some_iff.1 ho).1;refine((grownBy_setCell' w1 w.heap.size _).block q (Uy zH (Uz (by simp) zA.size)) (fun e=>by cases e;omega)).trans ?_;refine(zA.block q (by simp;omega) (fun e=> ?_)).trans ((Below.heap_alloc W _ q zH).trans ho);obtain⟨c,fz,hc⟩:=Lib.ownsRow_kind zB q e.symm;rw[hc] at ho;cases ho;simp[AO] at hn
  ·rw[zK]
   simpa [zG] using hr2
 case done=>
  rintro D W hD ⟨⟨v,hv,zB⟩,hB⟩ hK;have hc:=hv.cell
  gi_wp2
  refine⟨by simp,.inl ⟨_,_,rfl,run_takeDeferred hK,?_⟩⟩;rw[Uw (Us)] at zB;exact⟨_,results_tmp rfl _ _ _,v,rfl,ownsRow_putObj zB _ hK rfl,hB.trans ⟨rfl,rfl,rfl,by simp,fun i hi=>World.putObj_heap_other (by simp at hD;omega)⟩⟩
 case stop=>
  rintro D k W _ h _;exact h.elim
end
theorem Ho (gf:Nat) (recv:Value) (eg:∀args w,(callFunc gf args).run prog w=.ok (.enter gf args) w) (xs:List ByteArray) (n0:Nat) (w:World)
 (zB:DD prog gf (fun l=> #[recv,.func (.yield l) #[] #[]]) xs n0 w) (zC:n0<=w.heap.size) (hl:xs.length<=2097152):
 Calls prog 99 #[.func (.func gf) #[recv] #[]] w fun e w'=>∃v,e=.returned v/\w'.ownsRow w.heap.size 9 1 v xs.length (xs.map Value.string)/\Uq w w':=by
 go_enter func99,ntmps99;go_wp2_with fail;refine(KC gf recv eg xs n0 w zB zC hl).mono ?_;rintro e w1 ⟨v,rfl,zA,hb⟩;go_wp2;go_ret;exact⟨v,rfl,zA,hb⟩
def TE (ss tt:List ByteArray) (keep:Int):List ByteArray:=if Cb ss tt then ss++tt.take (min (max keep 0) tt.length).toNat else []
theorem LG:DM v0:=⟨by simp[v0],by simp[v0],by simp[v0],by simp[v0],⟨by simp[v0],by simp[v0],by simp[v0],by simp[v0]⟩,⟨by simp[v0],by simp[v0]⟩,by simp[v0,DF]⟩
theorem IV.fit {wd lim:Int} {ss tt:List ByteArray} {c:Int} {v:Vd} (h:IV wd lim ss tt c v) (hf:Ts ss tt):DM v:=by
 rcases h with⟨_,_,rfl⟩|⟨g,⟨_,_,rfl⟩|⟨r,hr,_,rfl⟩⟩
 ·exact LG
 ·exact LG
 ·have ho:=hr.ok (Fm g.1.1 g.1.2)
  have h1:=ho.kso.len;have h2:=ho.np;have h3:=ho.nl;have h4:=ho.r30;have h5:=LB h4;exact⟨hf.s,hf.t,hf.ss,hf.tt,⟨by show r.ks.length<=_;omega,fun k hk=>by have:=h4 k hk;omega,by show r.ps.length<=_;omega,by show r.ls.length<=_;omega⟩,⟨by simp[FW],by simp[FW]⟩,by show DF r.ks<=_;omega⟩
structure Ed where
 kd:Int
 s:ByteArray
 nm:ByteArray
 num:Int
 tx:ByteArray
 rf:List ByteArray
def Ed.ok (e:Ed) (wd:Int):Bool:=BA e.kd e.s e.nm e.num e.tx e.rf wd
def Ed.txt (e:Ed) (wd:Int):ByteArray:=Cx e.kd e.s e.nm e.num e.tx e.rf wd
def Ed.no (e:Ed) (v:Vd) (c:Int) (a b:ByteArray):Prop:=Hk v.wd v.now v.given v.births v.ks v.ps v.ls e.kd e.s e.nm e.num e.tx e.rf c a b
def Ed.yes (e:Ed) (v:Vd) (r:Rs):Prop:=Eb v.wd v.now v.given v.births v.ks v.ps v.ls e.kd e.s e.nm e.num e.tx e.rf r
def Ed.bigB (e:Ed) (v:Vd) (r:Rs):Bool:=decide (e.kd=1)&&decide (v.lim<CT v.wd r.ks)
def Ed.big (e:Ed) (v:Vd) (r:Rs):Prop:=e.bigB v r=true
def Ed.held (e:Ed) (r:Rs):ByteArray:=if e.kd=1 then r.sm else e.s
structure Dd where
 c:Int
 v:Vd
 s:ByteArray
 n:Int
 a:ByteArray
 b:ByteArray
def Qy (c:Int) (v:Vd) (a b:ByteArray):Dd:=⟨c,v,⟨#[]⟩,0,a,b⟩
noncomputable def doV (v:Vd) (e:Ed) (r:Rs):Vd:={v with tt:=v.tt++[e.txt v.wd],now:=r.now,given:=r.given,births:=r.births,ks:=r.ks,ps:=r.ps,ls:=r.ls,qs:=shQ v.ph r.ks v.qs v.ms (e.held r)}
noncomputable def dyes (v:Vd) (e:Ed) (r:Rs):Dd:=⟨0,doV v e r,r.sm,r.le,⟨#[]⟩,⟨#[]⟩⟩
def GM (v:Vd) (e:Ed) (c:Int) (a b:ByteArray):Prop:=
 (e.ok v.wd=false/\c=1/\a=⟨#[]⟩/\b=⟨#[]⟩)∨(e.ok v.wd=true/\(e.no v c a b∨(a=⟨#[]⟩/\b=⟨#[]⟩/\∃r,e.yes v r/\((e.big v r/\c=8)∨(¬e.big v r/\v.ss.length+v.tt.length=4000/\c=9)))))
def Ig (v:Vd) (e:Ed) (r:Rs):Prop:=e.ok v.wd=true/\e.yes v r/\¬e.big v r/\¬v.ss.length+v.tt.length=4000
def OH (v:Vd) (e:Ed) (d:Dd):Prop:=(¬Fo v/\d=Qy 1 v0 ⟨#[]⟩ ⟨#[]⟩)∨(Fo v/\((∃c a b,GM v e c a b/\d=Qy c v a b)∨∃r,Ig v e r/\d=dyes v e r))
theorem Cg.rokW {v:Vd} {r:Rs} (h:Cg v r):EH v.wd v.now v.given v.births v.ks v.ps v.ls:=by
 have h1:EH v.wd r.now r.given r.births r.ks r.ps r.ls:=h.run.ok (Fm h.wd.1 h.wd.2);obtain⟨⟨_,e2,e3,e4⟩,e5,e6,e7⟩:=h.same;rw[e2,e3,e4,e5,e6,e7] at h1;exact h1
theorem GM.code {v:Vd} {e:Ed} {c:Int} {a b:ByteArray} (h:GM v e c a b):c≠0:=by
 rcases h with⟨_,h,_⟩|⟨_,h|⟨_,_,r,_,⟨_,h⟩|⟨_,_,h⟩⟩⟩
 ·omega
 ·have:=Hk.code h;omega
 ·omega
 ·omega
theorem Ed.txt_size {e:Ed} {wd:Int} (h:e.ok wd=true):(e.txt wd).size<=5000:=by
 obtain⟨_,_,p⟩:=Fk h;unfold Ed.txt Cx;rw[if_pos (show BA e.kd e.s e.nm e.num e.tx e.rf wd=true from h)];show(DS e.kd.toNat e.s e.nm e.num e.tx e.rf).toArray.size<=5000;have h1:=p.sum;have h2:=p.name;have h3:(if e.kd.toNat=1 then AS e.tx e.rf else []).length<=3000:=by
  split
  ·next hk=>
   have h4:=AY (p.thing hk);have h5:=h4.bulk_le;have h6:=h4.text;rw[AS,List.length_cons,List.length_append,Cc];simp only[Array.length_toList];have h7:e.tx.data.size=e.tx.size:=rfl;omega
  ·simp
 rw[List.size_toArray];unfold DS Bz;simp only[List.length_append,List.length_cons,List.length_nil,Array.length_toList];have h4:e.s.data.size=e.s.size:=rfl;have h5:e.nm.data.size=e.nm.size:=rfl;omega
theorem OH.fit {v:Vd} {e:Ed} {d:Dd} (h:OH v e d) (hf:DM v):DM d.v:=by
 rcases h with⟨_,rfl⟩|⟨⟨r,zA⟩,⟨c,a,b,_,rfl⟩|⟨r',hy,rfl⟩⟩
 ·exact LG
 ·exact hf
 ·have ho:=zA.rokW.step hy.1 hy.2.1
  have h1:=ho.kso.len;have h2:=ho.np;have h3:=ho.nl;have h5:=LB ho.r30;have h6:=FU zA.log;rw[List.length_append] at h6;have h7:=Ed.txt_size hy.1;refine⟨hf.s,?_,hf.ss,?_,⟨by show r'.ks.length<=_;omega,fun k hk=>by have:=ho.r30 k hk;omega,by show r'.ps.length<=_;omega,by show r'.ls.length<=_;omega⟩,⟨?_,hf.r.m⟩,by show DF r'.ks<=_;omega⟩
  ·show(v.tt++[e.txt v.wd]).length<=_
   rw[List.length_append,List.length_singleton];omega
  ·intro s hs
   rcases List.mem_append.1 hs with hs|hs
   ·exact hf.tt s hs
   ·rw[List.mem_singleton] at hs
    subst hs;omega
  ·show(shQ v.ph r'.ks v.qs v.ms (e.held r')).length<=_
   have h8:=zA.round.sums.nq;unfold shQ;split
   ·rw[List.length_append,List.length_singleton]
    omega
   ·omega
def MG (wd:Int) (ks:List Kd):Prop:=∀k∈ks,As k.text k.refs wd=true
theorem MG.step {wd now given births:Int} {ks:List Kd} {ps:List Pd} {ls:List Ld} {kd:Int} {s nm:ByteArray} {num:Int} {text:ByteArray} {refs:List ByteArray} (h:MG wd ks) (he:BA kd s nm num text refs wd=true) {r:Rs} (hy:Eb wd now given births ks ps ls kd s nm num text refs r):MG wd r.ks:=by
 obtain⟨k1,k7,e⟩:=Fk he;rcases hy with⟨rfl,_,hl,hg,zD,b1,hy,rfl⟩|⟨_,_,zA,rfl⟩|⟨_,_,rfl⟩|⟨_,_,hl,hg,rfl⟩|⟨_,_,rfl⟩|⟨_,ht,rfl⟩|⟨_,_,_,rfl⟩
 ·rcases hy with⟨_,_,_,_,rfl,rfl⟩|⟨zC,zB,hb,rfl,rfl⟩
  ·exact h
  ·intro k hk
   rcases List.mem_append.1 (DK.1 hk) with hk|hk
   ·exact h k hk
   ·rw[List.mem_singleton] at hk
    subst hk;exact e.thing rfl
 ·exact h
 ·exact h
 ·exact h
 ·exact h
 ·exact h
 ·exact fun k hk=>h k (List.filter_sublist.subset hk)
theorem Cn.tok {wd:Int}:∀{xs:List ByteArray} {r r':Rs},Cn wd r xs r'->MG wd r.ks->MG wd r'.ks
 |[],r,r',h,hr=>by
  obtain rfl:r'=r:=h;exact hr
 |x::xs,r,r',h,hr=>by
  obtain⟨r1,h1,h2⟩:=h;exact Cn.tok h2 (hr.step (GJ h1.1).1 h1.2)
theorem Cg.tok {v:Vd} {r:Rs} (h:Cg v r):MG v.wd v.ks:=by
 have h1:=h.run.tok (by intro k hk;cases hk);rwa[h.same.2.1] at h1
def Eu (w:World) (lo:Nat) (a:Option Addr) (ss:List ByteArray):Prop:=
 ss=[]∨∃b off,a=some ⟨b,off,none⟩/\b<lo/\(∃cur,w.heap[b]?=some (.cells cur 9))/\∀i s,ss[i]?=some s->w.cell? ⟨b,off+i,none⟩=some (.string s)
theorem Eu.below {w w':World} {lo:Nat} {a:Option Addr} {ss:List ByteArray} (h:Eu w lo a ss) (hb:Below lo w w'):Eu w' lo a ss:=by
 rcases h with h|⟨b,off,ha,hl,⟨zA,hc⟩,hs⟩
 ·exact .inl h
 ·exact .inr ⟨b,off,ha,hl,⟨zA,(hb.block b hl).trans hc⟩,fun i s hi=>(hb.cell (p:=⟨b,off+i,none⟩) hl).trans (hs i s hi)⟩
theorem Eu.row {w:World} {lo:Nat} {a:Option Addr} {ss:List ByteArray} (h:Eu w lo a ss) (hl:lo<=w.heap.size):Ad w w.heap.size a ss:=by
 rcases h with h|⟨b,off,ha,hb,_,hs⟩
 ·exact .inl h
 ·exact .inr ⟨b,off,ha,Uy hb hl,hs⟩
theorem Eu.refV {w:World} {lo:Nat} {V:List Nat} {a:Option Addr} {ss:List ByteArray} (h:Eu w lo a ss) (hl:lo<=w.heap.size) (hV:∀b∈V,lo<=b):CA w 0 V a ss:=by
 rcases h with h|⟨b,off,ha,hb,hc,hs⟩
 ·exact .inl h
 ·exact .inr ⟨b,off,ha,Uy hb hl,fun h=>by have:=hV b h;omega,.inr ⟨Nat.zero_le _,hc⟩,hs⟩
theorem Dr.zero {V:World} {base d m:Nat} {O P L:Value} {wd now given births:Int} {ks:List Kd} {ps:List Pd} {ls:List Ld} (h:Dr V base d m O P L wd now given births ks ps ls) (hf:base+4<=m):Dr V 0 d m O P L wd now given births ks ps ls:=by
 obtain⟨n,f,h1,h2,h3⟩:=h.map;refine⟨h.box,⟨n,f,h1,h2,fun s hs=> ?_⟩,h.ord.mono (Nat.zero_le _),h.pin.mono (Nat.zero_le _),h.lea.mono (Nat.zero_le _),Nat.zero_le _,Nat.zero_le _,h.ap⟩;rcases h3 s hs with h|⟨u,ra,rc,q1,q2,q3,q4⟩
 ·exact .inl h
 ·refine .inr ⟨u,ra,rc,q1,q2,q3,?_⟩
  rcases q4 with q4|⟨b,off,ha,hb,hv,hx,hc⟩
  ·exact .inl q4
  ·refine .inr ⟨b,off,ha,hb,hv,.inr ⟨Nat.zero_le _,?_⟩,hc⟩
   rcases hx with⟨_,m',hm,hl⟩|⟨_,hx⟩
   ·simp[vB] at hm
    omega
   ·exact hx
theorem Dr.low {w:World} {base d m:Nat} {O P L:Value} {wd now given births:Int} {ks:List Kd} {ps:List Pd} {ls:List Ld} (hd:Dr w base d m O P L wd now given births ks ps ls):∀b∈vB d m O P L,base<=b:=by
 intro b hb;unfold vB at hb;simp only[List.mem_cons,List.mem_append,Option.mem_toList] at hb;rcases hb with rfl|rfl|e|e|e
 ·exact hd.bd
 ·exact hd.bm
 ·exact(Af hd.ord e).1
 ·exact(Af hd.pin e).1
 ·exact(Af hd.lea e).1
theorem Gc.has {d m:Nat} {wd:Int} {r:Rs} {X Z:World} (h:Gc 0 d m wd r X) (zA:∀k∈r.ks,(k.sum.size:Int)=wd) (hb:Z.heap[m]?=X.heap[m]?) (s:ByteArray):Qp Z wd m r.ks s:=by
 obtain⟨O,P,L,h⟩:=h;obtain⟨n,f,h1,h2,h3⟩:=h.map;exact Gq wd m n f r.ks X X.heap.size s Z (h2.same hb) h3.holds zA
theorem Gc.turn {d m:Nat} {wd:Int} {r:Rs} {X X':World} {R:Nat} (h:Gc 0 d m wd r X) (hd:R≠d) (hR:X.heap.size<=R∨∃zA,X.heap[R]?=some (.cells zA 96)) (ht:Tn [R] X X'):Gc 0 d m wd r X':=by
 rcases hR with hR|⟨zA,hR⟩
 ·obtain⟨O,P,L,h⟩:=h
  exact⟨O,P,L,h.below (ht.below (Us) (by simp;exact hR))⟩
 ·exact h.stays hR (Nat.zero_le _) hd ht
def xt (tx:ByteArray) (i:Nat):ByteArray:=⟨(tx.data.toList++[UInt8.ofNat i,UInt8.ofNat (3 *i)]).toArray⟩
theorem Jt (tx:ByteArray) (i:Nat):(xt tx i).size=tx.size+2:=by
 show(tx.data.toList++[UInt8.ofNat i,UInt8.ofNat (3 *i)]).toArray.size=_;rw[List.size_toArray,List.length_append];rfl
theorem OI (tx:ByteArray) (i:Nat):tx++⟨#[UInt8.ofNat i,UInt8.ofNat (3 *i)]⟩=xt tx i:=by
 have h:(tx++⟨#[UInt8.ofNat i,UInt8.ofNat (3 *i)]⟩:ByteArray).data=(xt tx i).data:=by
  rw[ByteArray.data_append];apply Array.toList_inj.1;simp[xt]
 cases h1:tx++⟨#[UInt8.ofNat i,UInt8.ofNat (3 *i)]⟩;cases h2:xt tx i;rw[h1,h2] at h;simpa using h
theorem Sj {tx:ByteArray} {i j:Nat} (hi:i<40) (hj:j<40) (h:xt tx i=xt tx j):i=j:=by
 have h1:(tx.data.toList++[UInt8.ofNat i,UInt8.ofNat (3 *i)])=tx.data.toList++[UInt8.ofNat j,UInt8.ofNat (3 *j)]:=by
  have:=congrArg (fun b=>b.data.toList) h;simpa [xt] using this
 have h2:=List.append_cancel_left h1;have h3:UInt8.ofNat i=UInt8.ofNat j:=(List.cons.inj h2).1;have h4:=congrArg UInt8.toNat h3;simp at h4;omega
def xe (tx:ByteArray) (i:Nat):Ed:=⟨1,⟨#[]⟩,⟨#[]⟩,1000,xt tx i,[]⟩
theorem SX (tx:ByteArray) (i:Nat) (h:tx.size<=100):As (xt tx i) [] 1=true:=by
 unfold As;rw[decide_eq_true (show(xt tx i).size<=2000 by rw[Jt];omega)];rfl
theorem SY (tx:ByteArray) (i:Nat) (h:tx.size<=100):(xe tx i).ok 1=true:=by
 have h1:=SX tx i h;show(decide ((1:Int)<=1/\(1:Int)<=7)&&(decide ((1:Int)<=1/\(1:Int)<=8)&&(true&&(true&&(decide ((1:Int)<=1000/\(1000:Int)<=100000)&&As (xt tx i) [] 1)))))=true;rw[h1];decide
def xs (tx:ByteArray) (i:Nat):ByteArray:=AX (xt tx i) [] 1
theorem Qz (tx:ByteArray) (i:Nat) (h:tx.size<=100):Am (xt tx i) [] 1=⟨(UInt8.ofNat 0::(xt tx i).data.toList).toArray⟩:=by
 unfold Am;rw[if_pos (SX tx i h)];rfl
theorem OJ {tx:ByteArray} {i j:Nat} (h:tx.size<=100) (hi:i<40) (hj:j<40) (he:Am (xt tx i) [] 1=Am (xt tx j) [] 1):i=j:=by
 rw[Qz tx i h,Qz tx j h] at he;have h1:UInt8.ofNat 0::(xt tx i).data.toList=UInt8.ofNat 0::(xt tx j).data.toList:=by
  have:=congrArg (fun b=>b.data.toList) he;simpa using this
 have h2:=(List.cons.inj h1).2;refine Sj (tx:=tx) hi hj ?_;have h3:(xt tx i).data=(xt tx j).data:=Array.toList_inj.1 h2;cases hx:xt tx i;cases hy:xt tx j;rw[hx,hy] at h3;simpa using h3
structure XJ (tx:ByteArray) (i:Nat) (v:Vd):Prop where
 ok:Fo v
 wd:v.wd=1
 lim:v.lim=1000000
 ph:v.ph=0
 tt:v.ss.length+v.tt.length=i
 ks:v.ks.length<=i
 ls:v.ls.length<=i
 given:v.given<=i
 births:v.births<=i
 all:∀k∈v.ks,∃j,j<i/\k.sum=xs tx j/\k.text=xt tx j/\k.refs=[]
 has:∀j,j<i->∃k∈v.ks,k.sum=xs tx j/\k.text=xt tx j/\k.refs=[]
theorem Cg.step {v:Vd} {r r':Rs} {e:Ed} (h:Cg v r) (zE:v.ph=0) (hy:Ig v e r'):Fo (doV v e r'):=by
 obtain⟨zD,zC,hb,hl⟩:=hy;obtain⟨⟨zG,e2,e3,e4⟩,e5,e6,e7⟩:=h.same;have zF:Gd v.wd r (e.txt v.wd) r':=by
  unfold Gd;rw[show Ay (e.txt v.wd) v.wd=⟨e.kd,e.s,e.nm,e.num,e.tx,e.rf,true⟩ from Lz zD];refine⟨rfl,?_⟩;show Eb v.wd r.now r.given r.births r.ks r.ps r.ls e.kd e.s e.nm e.num e.tx e.rf r';rw[e2,e3,e4,e5,e6,e7];exact zC
 have zB:=Cn.snoc zF h.run;have hq:shQ v.ph r'.ks v.qs v.ms (e.held r')=v.qs:=by rw[zE];exact FG (.inl rfl)
 have zA:=h.round;refine⟨r',h.wd,h.lim,?_,?_,⟨⟨zG,rfl,rfl,rfl⟩,rfl,rfl,rfl⟩,⟨zA.ro1,zA.ro2,?_,?_⟩⟩
 ·show Cb v.ss (v.tt++[e.txt v.wd])=true
  have h1:=h.log;have h2:=Ed.txt_size zD;have h3:=FU h.log;rw[List.length_append] at h3;unfold Cb at h1 ⊢;simp only[Bool.and_eq_true,decide_eq_true_eq,List.all_eq_true] at h1 ⊢;refine⟨by rw[List.length_append,List.length_singleton];omega,fun x hx=> ?_⟩;rw[←List.append_assoc] at hx;rcases List.mem_append.1 hx with hx|hx
  ·exact h1.2 x hx
  ·rw[List.mem_singleton] at hx
   subst hx;exact h2
 ·show Cn v.wd r0 (v.ss++(v.tt++[e.txt v.wd])) r'
  rw[←List.append_assoc];exact zB
 ·show LA v.wd (shQ v.ph r'.ks v.qs v.ms (e.held r')) v.ms
  rw[hq];exact zA.sums
 ·show Et r'.births v.ph v.top v.at_ (shQ v.ph r'.ks v.qs v.ms (e.held r')) v.ms
  rw[hq];rcases zA.ph with h1|⟨h1,_⟩|⟨h1,_⟩
  ·exact .inl h1
  ·omega
  ·omega
theorem XJ.step {tx:ByteArray} {i:Nat} {v:Vd} {d:Dd} (ht:tx.size<=100) (hi:i<40) (h:XJ tx i v) (hd:OH v (xe tx i) d):
 (d.c=3/\d.v=v/\d.a≠d.b/\d.b=Am (xt tx i) [] 1/\∃j,j<i/\d.a=Am (xt tx j) [] 1/\xs tx j=xs tx i)∨
 (d.c=0/\d.s=xs tx i/\XJ tx (i+1) d.v):=by
 obtain⟨r,zD⟩:=h.ok;have hw:=h.wd;rcases hd with⟨h1,_⟩|⟨_,⟨c,a,b,zI,rfl⟩|⟨r',hy,rfl⟩⟩
 ·exact absurd ⟨r,zD⟩ h1
 ·left
  rcases zI with⟨h1,_⟩|⟨_,h1|⟨_,_,r',hy,h2⟩⟩
  ·rw[hw,SY tx i ht] at h1
   cases h1
  ·rcases h1 with⟨_,h1⟩|⟨_,_,h1⟩
   ·rcases h1 with⟨h1,_⟩|⟨_,⟨k,hk,hs,hf,rfl,rfl,rfl⟩|⟨_,h1,_⟩|⟨_,h1,_⟩⟩
    ·exact absurd (fun r hr=>by cases hr) h1
    ·obtain⟨j,hj,q1,q2,q3⟩:=h.all k hk
     rw[hw] at hs hf;refine⟨rfl,rfl,?_,by show Am (xt tx i) [] v.wd=_;rw[hw],j,hj,?_,?_⟩
     ·show Am k.text k.refs v.wd≠Am (xt tx i) [] v.wd
      rw[hw];exact hf
     ·show Am k.text k.refs v.wd=_
      rw[hw,q2,q3]
     ·rw[←q1,hs]
      rfl
    ·have:=h.ks
     have:=h.births;omega
    ·have:=h.ls
     have:=h.given;omega
   ·rcases h1 with⟨h1,_⟩|⟨h1,_⟩|⟨h1,_⟩|⟨h1,_⟩|⟨h1,_⟩|⟨h1,_⟩<;>exact absurd h1 (by show ¬(1:Int)=_;omega)
  ·rcases h2 with⟨zB,_⟩|⟨_,zF,_⟩
   ·exfalso
    have zJ:=zD.tok.step (show(xe tx i).ok v.wd=true by rw[hw];exact SY tx i ht) hy;have zH:r'.ks.length<=i+1:=by
     have h3:=h.ks;rcases hy with⟨_,_,hl,hg,zG,b1,zA,rfl⟩|⟨h1,_⟩|⟨h1,_⟩|⟨h1,_⟩|⟨h1,_⟩|⟨h1,_⟩|⟨h1,_⟩
     ·rcases zA with⟨_,_,_,_,rfl,_⟩|⟨_,_,_,rfl,_⟩
      ·show v.ks.length<=i+1
       omega
      ·show(CD v.ks _).length<=i+1
       rw[FO];omega
     all_goals exact absurd h1 (by show ¬(1:Int)=_;omega)
    have hb:=(Ic (wd:=v.wd) (ks:=r'.ks) (fun i k hi=>zJ k (Ux hi)) r'.ks.length (Us)).2;rw[Uw (Us)] at hb;unfold Ed.big Ed.bigB at zB;simp only[Bool.and_eq_true,decide_eq_true_eq] at zB;have h4:=h.lim;omega
   ·have:=h.tt
    omega
 ·right
  have zK:=hy;obtain⟨_,zE,_,_⟩:=hy;have hv:=zD.step h.ph zK;rcases zE with⟨_,_,hl,hg,zG,b1,zA,rfl⟩|⟨h1,_⟩|⟨h1,_⟩|⟨h1,_⟩|⟨h1,_⟩|⟨h1,_⟩|⟨h1,_⟩
  ·rw[hw] at zA
   have zC:¬Av v.ks (xs tx i)/\zG=CD v.ks ⟨xs tx i,v.births+1,xt tx i,[]⟩/\b1=v.births+1:=by
    rcases zA with⟨k,hk,_,hf,_⟩|⟨q1,_,_,q2,q3⟩
    ·obtain⟨j,hj,_,q2,q3⟩:=h.all k hk
     rw[q2,q3] at hf;have:=OJ ht (by omega) hi hf;omega
    ·exact⟨q1,q2,q3⟩
   obtain⟨_,rfl,rfl⟩:=zC;refine⟨rfl,by show AX (xt tx i) [] v.wd=_;rw[hw];rfl,⟨hv,hw,h.lim,h.ph,?_,?_,?_,?_,?_,?_,?_⟩⟩
   ·show v.ss.length+(v.tt++[_]).length=i+1
    have:=h.tt;rw[List.length_append,List.length_singleton];omega
   ·show(CD v.ks _).length<=i+1
    rw[FO];have:=h.ks;omega
   ·show(v.ls++[_]).length<=i+1
    have:=h.ls;rw[List.length_append,List.length_singleton];omega
   ·show v.given+1<=((i+1:Nat):Int)
    have:=h.given;omega
   ·show v.births+1<=((i+1:Nat):Int)
    have:=h.births;omega
   ·intro k hk
    rcases List.mem_append.1 (DK.1 hk) with hk|hk
    ·obtain⟨j,hj,q⟩:=h.all k hk
     exact⟨j,by omega,q⟩
    ·rw[List.mem_singleton] at hk
     subst hk;exact⟨i,by omega,rfl,rfl,rfl⟩
   ·intro j hj
    by_cases hji:j=i
    ·subst hji
     exact⟨_,DK.2 (List.mem_append.2 (.inr (List.mem_singleton.2 rfl))),rfl,rfl,rfl⟩
    ·obtain⟨k,hk,q⟩:=h.has j (by omega)
     exact⟨k,DK.2 (List.mem_append.2 (.inl hk)),q⟩
  all_goals exact absurd h1 (by show ¬(1:Int)=_;omega)
theorem XJ.open {tx:ByteArray} {c:Int} {v:Vd} (h:IV 1 1000000 [] [] c v):c=0/\XJ tx 0 v:=by
 rcases h with⟨h,_⟩|⟨_,⟨⟨n,k,r,x,_,h,_⟩,_⟩|⟨r,hr,rfl,rfl⟩⟩
 ·exact absurd ⟨⟨by omega,by omega⟩,⟨by omega,by omega⟩,rfl⟩ h
 ·simp at h
 ·obtain rfl:r=r0:=hr
  refine⟨rfl,⟨⟨r0,⟨by show(1:Int)<=1/\(1:Int)<=8;omega,by show(0:Int)<=1000000/\(1000000:Int)<=1000000;omega,rfl,rfl,⟨⟨rfl,rfl,rfl,rfl⟩,rfl,rfl,rfl⟩,⟨Int.le_refl 0,by show(0:Int)<=1000000000;omega,⟨by show 0<=23200;omega,by show 0<=600;omega,fun s hs=>(by cases hs),fun s hs=>(by cases hs),List.nodup_nil⟩,.inl ⟨rfl,rfl,rfl,rfl,rfl⟩⟩⟩⟩,rfl,rfl,rfl,rfl,Nat.le_refl 0,Nat.le_refl 0,Int.le_refl 0,Int.le_refl 0,fun k hk=>(by cases hk),fun j hj=>(by omega)⟩⟩
theorem XJ.fetch {tx:ByteArray} {i:Nat} {v:Vd} (h:XJ tx i v) {j:Nat} (hj:j<i) {k:Kd} (hk:k∈v.ks) (hs:k.sum=xs tx j):k.text=xt tx j:=by
 obtain⟨r,zB⟩:=h.ok;obtain⟨u,hu,q1,q2,_⟩:=h.has j hj;have zA:=zB.rokW.kso.nd;rw[FN zA hk hu (hs.trans q1.symm),q2]
end Go.Proofs.YtflhhhnlhlaehaaGreatDoor
