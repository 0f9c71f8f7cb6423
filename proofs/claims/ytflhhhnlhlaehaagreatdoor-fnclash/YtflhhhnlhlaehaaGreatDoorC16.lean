import Derived.Test.YtflhhhnlhlaehaaGreatDoorC15
import Derived.Test.YtflhhhnlhlaehaaGreatDoorC03
import Derived.Sort.Walk0
set_option maxRecDepth 100000
set_option maxHeartbeats 16000000
namespace Go.Proofs.YtflhhhnlhlaehaaGreatDoor
open Go.ChangeShapes Go.WideShapes Go.ChangeAt Go.RowKit _root_.Go.Proofs.Tryz
def CV (wd births:Int) (ks:List Kd) (text:ByteArray) (refs:List ByteArray) (ks1:List Kd) (births1:Int):Prop:=
 (∃k∈ks,k.sum=AX text refs wd/\Am k.text k.refs wd=Am text refs wd/\ks1=ks/\births1=births)∨
 (¬Av ks (AX text refs wd)/\ks.length<600/\births<1000000000/\ks1=CD ks ⟨AX text refs wd,births+1,text,refs⟩/\births1=births+1)
def IL (wd given births:Int) (ks:List Kd) (ls:List Ld) (text:ByteArray) (refs:List ByteArray) (c:Int) (a b:ByteArray):Prop:=
 ((¬∀r∈refs,Av ks r)/\c=2/\a=⟨#[]⟩/\b=⟨#[]⟩)∨
 ((∀r∈refs,Av ks r)/\(
   (∃k∈ks,k.sum=AX text refs wd/\Am k.text k.refs wd≠Am text refs wd/\c=3/\a=Am k.text k.refs wd/\b=Am text refs wd)∨
   (¬Av ks (AX text refs wd)/\(ks.length=600∨births=1000000000)/\c=4/\a=⟨#[]⟩/\b=⟨#[]⟩)∨
   ((∃ks1 births1,CV wd births ks text refs ks1 births1)/\(ls.length=200∨given=1000000000)/\c=4/\a=⟨#[]⟩/\b=⟨#[]⟩)))
theorem CV.there {wd births:Int} {ks:List Kd} {text:ByteArray} {refs:List ByteArray} {zA:List Kd} {births1:Int} (h:CV wd births ks text refs zA births1):Av zA (AX text refs wd):=by
 rcases h with⟨k,hk,hs,_,rfl,_⟩|⟨_,_,_,rfl,_⟩
 ·exact⟨k,hk,hs⟩
 ·exact⟨⟨AX text refs wd,births+1,text,refs⟩,DK.2 (by simp),rfl⟩
theorem CV.sz {wd births:Int} {ks:List Kd} {text:ByteArray} {refs:List ByteArray} {zB:List Kd} {births1:Int} (h:CV wd births ks text refs zB births1) (zA:∀k∈ks,(k.sum.size:Int)=wd) (hS:((AX text refs wd).size:Int)=wd):∀k∈zB,(k.sum.size:Int)=wd:=by
 rcases h with⟨k,hk,hs,_,rfl,_⟩|⟨_,_,_,rfl,_⟩
 ·exact zA
 ·intro k hk
  rcases List.mem_append.1 (DK.1 hk) with hk|hk
  ·exact zA k hk
  ·simp at hk
   rw[hk];exact hS
theorem Kx (base d m:Nat) (O P L:Value) (wd now given births:Int) (ks:List Kd) (ps:List Pd) (ls:List Ld) (s nm text:ByteArray) (num:Int) (refs:List ByteArray) (ra:Option Addr) (rc:Nat) (w:World) (h:DU w base d m O P L wd now given births ks ps ls) (yI:En wd ks) (h1:1<=wd) (xO:∀k∈ks,k.text.size<=maxLen) (yU:((AX text refs wd).size:Int)=wd) (xN:text.size<=maxLen) (xK:refs.length<=1000) (xB:0<=births) (xC:births<=1000000000) (hr:CA w base (vB d m O P L) ra refs) (hl:ls.length<=200) (xG:0<=given) (xU:given<=1000000000) (xI:0<=now) (xJ:now<=1000000000) (xL:0<=num) (xM:num<=1000000000):
 Calls prog 62 #[.pointer (some ⟨d,0,none⟩),.agg #[.int .i64 1,.string s,.string nm,.int .i64 num,.string text,.slice ra refs.length rc]] w fun e w'=>(∃c a b,IL wd given births ks ls text refs c a b/\e=.panicked [{v:=refV c a b,recovered:=false}]/\Tn (vB d m O P L) w w')∨
  (∃zE births1,(∀r∈refs,Av ks r)/\CV wd births ks text refs zE births1/\ls.length<200/\given<1000000000/\e=.returned (.agg #[.int .i64 0,.int .i64 0,.int .i64 0,.int .i64 0,.int .i64 0,.slice none 0 0,.slice none 0 0,.slice none 0 0,.string (AX text refs wd),.int .i64 (given+1),.string ⟨#[]⟩,.string ⟨#[]⟩])/\∃O' L',DU w' base d m O' P L' wd now (given+1) births1 zE ps (ls++[⟨given+1,AX text refs wd,now+num⟩])/\Tn (vB d m O P L) w w'):=by
 obtain⟨W,hW⟩:∃W,W=((w.alloc (.cells #[.int .i64 1,.string s,.string nm,.int .i64 num,.string text,.slice ra refs.length rc] 92)).alloc (.cells #[.int .i64 0,.int .i64 0,.int .i64 0,.int .i64 0,.int .i64 0,.slice none 0 0,.slice none 0 0,.slice none 0 0,.string ⟨#[]⟩,.int .i64 0,.string ⟨#[]⟩,.string ⟨#[]⟩] 96)).alloc (.cells #[.int .i64 0,.int .i64 0,.int .i64 0,.int .i64 0,.int .i64 0,.slice none 0 0,.slice none 0 0,.slice none 0 0,.string ⟨#[]⟩,.int .i64 0,.string ⟨#[]⟩,.string ⟨#[]⟩] 96):=⟨_,rfl⟩
 have hB:=(Bn hW).1;have yV:=(Bn hW).2.1;have xE:=(Bn hW).2.2.1;have zR:Aa W (w.heap.size+1) AJ:=by
  have h1:=Aa.new (w.alloc (.cells #[.int .i64 1,.string s,.string nm,.int .i64 num,.string text,.slice ra refs.length rc] 92)) AJ 96;rw[World.size_alloc] at h1;rw[hW];exact Aa.below (v:=.int .i64 0) h1 (Ur)
 have zO:Aa W (w.heap.size+2) AJ:=by
  have h1:=Aa.new ((w.alloc (.cells #[.int .i64 1,.string s,.string nm,.int .i64 num,.string text,.slice ra refs.length rc] 92)).alloc (.cells #[.int .i64 0,.int .i64 0,.int .i64 0,.int .i64 0,.int .i64 0,.slice none 0 0,.slice none 0 0,.slice none 0 0,.string ⟨#[]⟩,.int .i64 0,.string ⟨#[]⟩,.string ⟨#[]⟩] 96)) AJ 96;rw[World.size_alloc,World.size_alloc] at h1;rw[hW];exact h1
 have yQ:W.heap[w.heap.size+1]?=some (.cells #[.int .i64 0,.int .i64 0,.int .i64 0,.int .i64 0,.int .i64 0,.slice none 0 0,.slice none 0 0,.slice none 0 0,.string ⟨#[]⟩,.int .i64 0,.string ⟨#[]⟩,.string ⟨#[]⟩] 96):=by
  rw[hW,Below.heap_alloc _ _ _ (by simp)];have:=heap_alloc_new (w.alloc (.cells #[.int .i64 1,.string s,.string nm,.int .i64 num,.string text,.slice ra refs.length rc] 92)) (.cells #[.int .i64 0,.int .i64 0,.int .i64 0,.int .i64 0,.int .i64 0,.slice none 0 0,.slice none 0 0,.slice none 0 0,.string ⟨#[]⟩,.int .i64 0,.string ⟨#[]⟩,.string ⟨#[]⟩] 96);rw[World.size_alloc] at this;exact this
 have yN:W.heap[w.heap.size+2]?=some (.cells #[.int .i64 0,.int .i64 0,.int .i64 0,.int .i64 0,.int .i64 0,.slice none 0 0,.slice none 0 0,.slice none 0 0,.string ⟨#[]⟩,.int .i64 0,.string ⟨#[]⟩,.string ⟨#[]⟩] 96):=by
  have:=heap_alloc_new ((w.alloc (.cells #[.int .i64 1,.string s,.string nm,.int .i64 num,.string text,.slice ra refs.length rc] 92)).alloc (.cells #[.int .i64 0,.int .i64 0,.int .i64 0,.int .i64 0,.int .i64 0,.slice none 0 0,.slice none 0 0,.slice none 0 0,.string ⟨#[]⟩,.int .i64 0,.string ⟨#[]⟩,.string ⟨#[]⟩] 96)) (.cells #[.int .i64 0,.int .i64 0,.int .i64 0,.int .i64 0,.int .i64 0,.slice none 0 0,.slice none 0 0,.slice none 0 0,.string ⟨#[]⟩,.int .i64 0,.string ⟨#[]⟩,.string ⟨#[]⟩] 96)
  rw[World.size_alloc,World.size_alloc] at this;rw[hW];exact this
 have hD:=h.below hB;have xT:=h.dr.box.lt;have yT:∀b∈vB d m O P L,b<w.heap.size:=h.dr.lts;have xS:base<=w.heap.size:=h.lo;have HC:Hid _:=Rl base d m O P L wd now given births ks ps ls text refs ra rc W hD yI h1 xO yU xN xK xB xC (hr.move (U:=[]) (Tn.of hB) (by simp) (fun b hb=> .inl hb));have HW:Hid _:=hW
 have HZ:Hid (Aa W (w.heap.size+1) AJ/\Aa W (w.heap.size+2) AJ/\W.heap[w.heap.size+1]?=some (.cells #[.int .i64 0,.int .i64 0,.int .i64 0,.int .i64 0,.int .i64 0,.slice none 0 0,.slice none 0 0,.slice none 0 0,.string ⟨#[]⟩,.int .i64 0,.string ⟨#[]⟩,.string ⟨#[]⟩] 96)/\W.heap[w.heap.size+2]?=some (.cells #[.int .i64 0,.int .i64 0,.int .i64 0,.int .i64 0,.int .i64 0,.slice none 0 0,.slice none 0 0,.slice none 0 0,.string ⟨#[]⟩,.int .i64 0,.string ⟨#[]⟩,.string ⟨#[]⟩] 96)/\Uq w W/\W.heap.size=w.heap.size+3/\Aa W w.heap.size [.int .i64 1,.string s,.string nm,.int .i64 num,.string text,.slice ra refs.length rc]):=⟨zR,zO,yQ,yN,hB,yV,xE⟩
 have yK:Hid (∀b∈vB d m O P L,b<w.heap.size):=yT;have yX:Hid (DU W base d m O P L wd now given births ks ps ls):=hD;have yY:Hid (∀k∈ks,(k.sum.size:Int)=wd):=yI.sz;obtain⟨e0,e3,e4,e5⟩:=Aa.c4 xE 0 3 4 5;clear hW h hD zR zO yQ yN hB yV xE yT hr yI;go_enter func62,ntmps62;go_upto_region 2 with fail;rw[←HW.o];clear HW;go_wp2_with fail;refine Calls.mono HC.o ?_;intro e w1 zH
 have yA:Tn (vB d m O P L) w W:=Tn.of HZ.o.2.2.2.2.1;obtain⟨zW,rfl,hb⟩|⟨zG,zH⟩:=zH
 ·clear e0 e3 e4 e5
  go_wp2;exact⟨rfl,.inl ⟨2,_,_,.inl ⟨zW,rfl,rfl,rfl⟩,rfl,yA.trans (Tn.of hb)⟩⟩
 have zT:(∃c a b,IL wd given births ks ls text refs c a b/\e=.panicked [{v:=refV c a b,recovered:=false}]/\Tn (vB d m O P L) W w1)∨(e=.returned (.string (AX text refs wd))/\∃zE births1 O1,CV wd births ks text refs zE births1/\DU w1 base d m O1 P L wd now given births1 zE ps ls/\Tn (vB d m O P L) W w1/\(O1.ownBlock=O.ownBlock∨∃g,O1.ownBlock=some g/\W.heap.size<=g)):=by
  rcases zH with⟨k,hk,hs,hf,rfl,hb⟩|⟨k,hk,hs,hf,rfl,hb⟩|⟨zV,zB,rfl,hb⟩|⟨zV,xH,xF,rfl,⟨O',yG,zZ⟩,ht⟩
  ·exact .inr ⟨rfl,ks,births,O,.inl ⟨k,hk,hs,hf,rfl,rfl⟩,yX.o.below hb,Tn.of hb,.inl rfl⟩
  ·exact .inl ⟨3,_,_,.inr ⟨zG,.inl ⟨k,hk,hs,hf,rfl,rfl,rfl⟩⟩,rfl,Tn.of hb⟩
  ·exact .inl ⟨4,_,_,.inr ⟨zG,.inr (.inl ⟨zV,zB,rfl,rfl,rfl⟩)⟩,rfl,Tn.of hb⟩
  ·exact .inr ⟨rfl,_,_,O',.inr ⟨zV,xH,xF,rfl,rfl⟩,yG,ht.mono (by intro b hb;unfold vB;simp at hb ⊢;rcases hb with rfl|rfl|hb<;>simp[*]),zZ⟩
 clear zH;have zQ:Hid (∀r∈refs,Av ks r):=zG;clear zG;obtain⟨c,a,b,zV,rfl,ht⟩|⟨rfl,zE,births1,O1,zJ,yH,zP,yG⟩:=zT
 ·clear e0 e3 e4 e5
  go_wp2;exact⟨rfl,.inl ⟨c,a,b,zV,rfl,yA.trans ht⟩⟩
 have zz:=HZ.o.2.2.2.2.2.1;have zU:∀j,w.heap.size<=j->j∉vB d m O P L:=fun j hj h=>by have:=yK.o _ h;omega
 have yD:Aa w1 (w.heap.size+1) AJ:=Aa.same HZ.o.1 (zP.block _ (by omega) (zU _ (by omega)));have zX:Aa w1 (w.heap.size+2) AJ:=Aa.same HZ.o.2.1 (zP.block _ (by omega) (zU _ (by omega)));have yC:Aa w1 w.heap.size [.int .i64 1,.string s,.string nm,.int .i64 num,.string text,.slice ra refs.length rc]:=Aa.same HZ.o.2.2.2.2.2.2 (zP.block _ (by omega) (zU _ (by omega)))
 have zM:w1.heap[w.heap.size+1]?=some (.cells #[.int .i64 0,.int .i64 0,.int .i64 0,.int .i64 0,.int .i64 0,.slice none 0 0,.slice none 0 0,.slice none 0 0,.string ⟨#[]⟩,.int .i64 0,.string ⟨#[]⟩,.string ⟨#[]⟩] 96):=(zP.block _ (by omega) (zU _ (by omega))).trans HZ.o.2.2.1
 have zA:w1.heap[w.heap.size+2]?=some (.cells #[.int .i64 0,.int .i64 0,.int .i64 0,.int .i64 0,.int .i64 0,.slice none 0 0,.slice none 0 0,.slice none 0 0,.string ⟨#[]⟩,.int .i64 0,.string ⟨#[]⟩,.string ⟨#[]⟩] 96):=(zP.block _ (by omega) (zU _ (by omega))).trans HZ.o.2.2.2.1;obtain⟨X,hX⟩:∃X,X=w1.setCell ⟨w.heap.size+2,8,none⟩ (.string (AX text refs wd)):=⟨_,rfl⟩
 have tX:Tn [w.heap.size+2] w1 X:=by rw[hX];exact Gt _ _ _ _
 have zF:Aa X (w.heap.size+2) (AJ.set 8 (.string (AX text refs wd))):=by rw[hX];exact zX.set 8 _
 have zK:Aa X (w.heap.size+1) AJ:=Aa.same yD (tX.block _ yD.lt (by simp));have yJ:Aa X w.heap.size [.int .i64 1,.string s,.string nm,.int .i64 num,.string text,.slice ra refs.length rc]:=Aa.same yC (tX.block _ yC.lt (by simp));have zL:DU X base d m O1 P L wd now given births1 zE ps ls:=yH.turn tX (by intro b hb;simp at hb;subst hb;exact⟨by omega,yH.notin zA (by omega)⟩);have o8:=(zX 8 _ rfl).2
 have v8:=(zX 8 _ rfl).1;have zI:=zJ.sz yY.o yU;have zS:Hid _:=And.intro zJ (And.intro yH (And.intro zP yG));have yE:Hid _:=And.intro tX (And.intro zF (And.intro zK (And.intro zL (And.intro zA zM))));have yL:Hid _:=hX;have yZ:Hid (∃cur,X.heap[w.heap.size+2]?=some (.cells cur 96)):=⟨_,by rw[hX,setCell_eq_setRow w1 _ _ _ _ _ _ zA];exact setRow_heap w1 _ _ _ _ _ zA⟩;obtain⟨xA,_⟩:=yJ 3 _ rfl
 have s8:=(zF 8 _ rfl).1;have xR:w.heap.size+2<X.heap.size:=zF.lt;by_cases zB:ls.length=200∨given=1000000000
 ·have HL:Hid _:=JS base d m O1 P L wd now given births1 zE ps ls (AX text refs wd) num X zL zI zJ.there zB
  clear e0 e3 e4 e5 hX tX zF zK yJ zL yD zX yC zM zA zI HC;go_upto_region 5 with fail;rw[←yL.o];go_wp2_with fail;refine Calls.mono HL.o ?_;rintro e w2 ⟨rfl,xD⟩;go_wp2;refine⟨rfl,.inl ⟨4,_,_,.inr ⟨zQ.o,.inr (.inr ⟨⟨_,_,zS.o.1⟩,zB,rfl,rfl,rfl⟩)⟩,rfl,?_⟩⟩;have t0:=(yA.trans zS.o.2.2.1).fresh yE.o.1 (show w.heap.size<=w.heap.size+2 by omega);exact t0.trans (Tn.of xD)
 ·have yS:ls.length<200:=by omega
  have yR:given<1000000000:=by omega
  have HL:Hid _:=Ll base d m O1 P L wd now given births1 zE ps ls (AX text refs wd) num X zL zI zJ.there yS xG yR xI xJ xL xM;clear e0 e3 e4 e5 hX tX zF zK yJ zL yD zX yC zM zA zI HC zB;go_upto_region 5 with fail;rw[←yL.o];go_wp2_with fail;refine Calls.mono HL.o ?_;rintro e w2 ⟨rfl,L',yB,zN⟩;obtain⟨tX,zF,zK,zL,zA,zM⟩:=yE.o
  have zD:∀b∈d::L.ownBlock.toList,b<w.heap.size:=fun b hb=>yK.o b (by unfold vB;simp at hb ⊢;rcases hb with rfl|hb<;>simp[*]);have yW:Aa w2 (w.heap.size+1) AJ:=Aa.same zK (zN.block _ zK.lt (fun h=>by have:=zD _ h;omega));have zC:Aa w2 (w.heap.size+2) (AJ.set 8 (.string (AX text refs wd))):=Aa.same zF (zN.block _ zF.lt (fun h=>by have:=zD _ h;omega))
  have yP:X.heap[w.heap.size+1]?=_:=(tX.block _ (by have:=zS.o.2.2.1.size;omega) (by simp)).trans zM;have yO:w2.heap[w.heap.size+1]?=some (.cells #[.int .i64 0,.int .i64 0,.int .i64 0,.int .i64 0,.int .i64 0,.slice none 0 0,.slice none 0 0,.slice none 0 0,.string ⟨#[]⟩,.int .i64 0,.string ⟨#[]⟩,.string ⟨#[]⟩] 96):=(zN.block _ zK.lt (fun h=>by have:=zD _ h;omega)).trans yP;obtain⟨yF,yM⟩:=yZ.o
  have zZ:w2.heap[w.heap.size+2]?=some (.cells yF 96):=(zN.block _ zF.lt (fun h=>by have:=zD _ h;omega)).trans yM;have zY:Hid _:=And.intro yB (And.intro zN (And.intro (yB.notin yO (by omega)) (yB.notin zZ (by omega))));obtain⟨⟨y0,q0⟩,⟨y1,q1⟩,⟨y2,q2⟩,⟨y3,q3⟩,⟨y4,q4⟩,⟨y5,q5⟩,⟨y6,q6⟩,⟨y7,q7⟩,⟨y8,q8⟩,⟨y9,q9⟩,⟨xP,xX⟩,xQ,xY⟩:=CN yW;obtain⟨v0,p0⟩:=zC 0 _ rfl;obtain⟨v1,p1⟩:=zC 1 _ rfl
  obtain⟨v2,p2⟩:=zC 2 _ rfl;obtain⟨v3,p3⟩:=zC 3 _ rfl;obtain⟨v4,p4⟩:=zC 4 _ rfl;obtain⟨v5,p5⟩:=zC 5 _ rfl;obtain⟨v6,p6⟩:=zC 6 _ rfl;obtain⟨v7,p7⟩:=zC 7 _ rfl;obtain⟨vC,p8⟩:=zC 8 _ rfl;obtain⟨v9,p9⟩:=zC 9 _ rfl;obtain⟨xZ,xV⟩:=zC 10 _ rfl;obtain⟨vA,xW⟩:=zC 11 _ rfl;clear yB zN yW zC yO zZ yP tX zF zK zL zA zM HL zD yM xA s8 o8 v8;go_wp2
  refine bodyPost_ret (v:=.agg #[.int .i64 0,.int .i64 0,.int .i64 0,.int .i64 0,.int .i64 0,.slice none 0 0,.slice none 0 0,.slice none 0 0,.string (AX text refs wd),.int .i64 (given+1),.string ⟨#[]⟩,.string ⟨#[]⟩]) (by simp[results,results62,go_sem,y0,y1,y2,y3,y4,y5,y6,y7,y8,y9,xP,xQ]) rfl ?_
  have T9:=(Tn.set (V:=[w.heap.size+1,w.heap.size+2]) w2 (w.heap.size+2) 9 (.int .i64 (given+1)) (by simp)).trans (Tn.mono (DX (w2.setCell ⟨w.heap.size+2,9,none⟩ (.int .i64 (given+1))) (w.heap.size+1) (.int .i64 0) (.int .i64 0) (.int .i64 0) (.int .i64 0) (.int .i64 0) (.slice none 0 0) (.slice none 0 0) (.slice none 0 0) (.string (AX text refs wd)) (.int .i64 (given+1)) (.string ⟨#[]⟩) (.string ⟨#[]⟩)) (by simp))
  refine .inr ⟨zE,births1,zQ.o,zS.o.1,yS,yR,rfl,O1,L',zY.o.1.turn T9 (by intro b hb;simp at hb;rcases hb with rfl|rfl;exact⟨by omega,zY.o.2.2.1⟩;exact⟨by omega,zY.o.2.2.2⟩),?_⟩;have t0:=(yA.trans zS.o.2.2.1).fresh yE.o.1 (show w.heap.size<=w.heap.size+2 by omega);have t1:=t0.trans (zY.o.2.1.mono (V':=vB d m O P L) (by intro b hb;unfold vB;simp at hb ⊢;rcases hb with rfl|hb<;>simp[*]))
  exact⟨T9.os.trans t1.os,T9.tape.trans t1.tape,T9.output.trans t1.output,Uz t1.size T9.size,fun b hb hv=>(T9.block b (Uy hb t1.size) (by simp;omega)).trans (t1.block b hb hv)⟩
theorem SM {xs:List ByteArray} (h:∀(j:Nat) p q,xs[j]?=some p->xs[j+1]?=some q->less p q=true):xs.Pairwise (fun a b=>less a b=true):=by
 have hd:∀(d i:Nat) u v,xs[i]?=some u->xs[i+d+1]?=some v->less u v=true:=by
  intro d;induction d with
  |zero=>intro i u v hu hv;exact h i u v hu hv
  |succ d ih=>
   intro i u v hu hv;have zB:=(Ut hv).1;have hm:xs[i+d+1]?=some xs[i+d+1]:=Uu (by omega);exact BX (ih i u _ hu hm) (h _ _ _ hm (by rw[show i+d+1+1=i+(d+1)+1 by omega];exact hv))
 rw[List.pairwise_iff_getElem];intro i j hi hj zA;exact hd (j -i -1) i _ _ (Uu hi) (by rw[show i+(j -i -1)+1=j by omega];exact Uu hj)
theorem Mi {xs:List ByteArray} (h:xs.Pairwise (fun a b=>less a b=true)):xs.Nodup:=by
 refine List.Pairwise.imp ?_ h;intro a b zA e;rw[e,BL] at zA;cases zA
theorem On {wd:Int} {ss:List ByteArray} (h:Cw wd ss=true):ss.Pairwise (fun a b=>less a b=true):=by
 refine SM (fun j p q hp hq=> ?_);have hl:=(Ut hq).1;unfold Cw at h;rw[List.all_eq_true] at h;have:=h (j+1) (by simpa using hl);rw[CI hq hp] at this;simp at this;exact this.2
def To (w:World) (b off:Nat) (zs:List (Kd×Value)):Prop:=
 ∀i z,zs[i]?=some z->(w.cell? ⟨b,off+i *4,none⟩=some (.string z.1.sum)/\w.cell? ⟨b,off+i *4+1,none⟩=some (.int .i64 z.1.born)/\w.cell? ⟨b,off+i *4+2,none⟩=some (.string z.1.text)/\w.cell? ⟨b,off+i *4+3,none⟩=some z.2)/\∃ad rc,z.2=.slice (some ad) z.1.refs.length rc/\Ad w w.heap.size (some ad) z.1.refs
def Qt (zs:List (Kd×Value)) (s:ByteArray):List (Kd×Value):=zs.filter (fun z=> !decide (z.1.sum=s))
def IM (ps:List Pd) (ls:List Ld) (ks:List Kd) (s:ByteArray):Prop:=((∃p∈ps,p.sum=s)∨∃l∈ls,l.sum=s)∨∃k∈ks,s∈k.refs
def Tu (w w':World) (e:Ending) (wd now given births:Int) (P L:Value) (zs:List (Kd×Value)) (ps:List Pd) (ls:List Ld) (s:ByteArray):Prop:=
 Below w.heap.size w w'/\((IM ps ls (zs.map (·.1)) s/\e=.returned (.agg #[.int .i64 6,.int .i64 0,.int .i64 0,.int .i64 0,.int .i64 0,.slice none 0 0,.slice none 0 0,.slice none 0 0,.string ⟨#[]⟩,.int .i64 0,.string ⟨#[]⟩,.string ⟨#[]⟩]))∨
  (¬IM ps ls (zs.map (·.1)) s/\∃g c,e=.returned (.agg #[.int .i64 0,.int .i64 wd,.int .i64 now,.int .i64 given,.int .i64 births,.slice (some ⟨g,0,none⟩) (Qt zs s).length c,P,L,.string ⟨#[]⟩,.int .i64 0,.string ⟨#[]⟩,.string ⟨#[]⟩])/\To w' g 0 (Qt zs s)/\w.heap.size<=g/\g<w'.heap.size))
structure Rs where
 sm:ByteArray
 le:Int
 now:Int
 given:Int
 births:Int
 ks:List Kd
 ps:List Pd
 ls:List Ld
def Eb (wd now given births:Int) (ks:List Kd) (ps:List Pd) (ls:List Ld) (kd:Int) (s nm:ByteArray) (num:Int) (text:ByteArray) (refs:List ByteArray) (r:Rs):Prop:=
 (kd=1/\(∀r∈refs,Av ks r)/\ls.length<200/\given<1000000000/\∃ks1 births1,CV wd births ks text refs ks1 births1/\r=⟨AX text refs wd,given+1,now,given+1,births1,ks1,ps,ls++[⟨given+1,AX text refs wd,now+num⟩]⟩)∨
 (kd=2/\Av ks s/\((∃x∈ps,x.name=nm)∨ps.length<100)/\r=⟨⟨#[]⟩,0,now,given,births,ks,CP ps nm s,ls⟩)∨
 (kd=3/\(∃x∈ps,x.name=nm)/\r=⟨⟨#[]⟩,0,now,given,births,ks,Gx ps nm,ls⟩)∨
 (kd=4/\Av ks s/\ls.length<200/\given<1000000000/\r=⟨⟨#[]⟩,given+1,now,given+1,births,ks,ps,ls++[⟨given+1,s,now+num⟩]⟩)∨
 (kd=5/\(∃x∈ls,x.num=num)/\r=⟨⟨#[]⟩,0,now,given,births,ks,ps,IE ls num⟩)∨
 (kd=6/\now+num<=1000000000/\r=⟨⟨#[]⟩,0,now+num,given,births,ks,ps,Bc ls (now+num)⟩)∨
 (kd=7/\Av ks s/\¬IM ps ls ks s/\r=⟨⟨#[]⟩,0,now,given,births,Ez ks s,ps,ls⟩)
def Hk (wd now given births:Int) (ks:List Kd) (ps:List Pd) (ls:List Ld) (kd:Int) (s nm:ByteArray) (num:Int) (text:ByteArray) (refs:List ByteArray) (c:Int) (a b:ByteArray):Prop:=
 (kd=1/\IL wd given births ks ls text refs c a b)∨
 (a=⟨#[]⟩/\b=⟨#[]⟩/\(
   (kd=2/\((¬Av ks s/\c=2)∨(Av ks s/\(¬∃x∈ps,x.name=nm)/\ps.length=100/\c=4)))∨
   (kd=3/\(¬∃x∈ps,x.name=nm)/\c=5)∨
   (kd=4/\((¬Av ks s/\c=2)∨(Av ks s/\(ls.length=200∨given=1000000000)/\c=4)))∨
   (kd=5/\(¬∃x∈ls,x.num=num)/\c=5)∨
   (kd=6/\1000000000<now+num/\c=4)∨
   (kd=7/\((¬Av ks s/\c=2)∨(Av ks s/\IM ps ls ks s/\c=6)))))
structure Sf (wd now given births:Int) (ks:List Kd) (ps:List Pd) (ls:List Ld) (kd num:Int) (text:ByteArray) (refs:List ByteArray):Prop where
 kso:En wd ks
 w1:1<=wd
 np:ps.length<=100
 nl:ls.length<=200
 psort:ps.Pairwise (fun a b=>less a.name b.name=true)
 lsort:ls.Pairwise (fun a b=>a.num<b.num)
 now0:0<=now
 now1:now<=1000000000
 given0:0<=given
 given1:given<=1000000000
 births0:0<=births
 births1:births<=1000000000
 kd1:1<=kd
 kd7:kd<=7
 num0:0<=num
 num1:num<=1000000000
 txt:∀k∈ks,k.text.size<=maxLen
 txl:text.size<=maxLen
 rfn:refs.length<=1000
theorem GD (text:ByteArray) (refs:List ByteArray) (wd:Int) (h:1<=wd):((AX text refs wd).size:Int)=wd:=MW ⟨⟨#[]⟩,0,text,refs⟩ wd h
def Gc (base d m:Nat) (wd:Int) (r:Rs) (w:World):Prop:=∃O P L,Dr w base d m O P L wd r.now r.given r.births r.ks r.ps r.ls
theorem IN (base d m:Nat) (O P L:Value) (wd now given births:Int) (ks:List Kd) (ps:List Pd) (ls:List Ld) (kd:Int) (s nm:ByteArray) (num:Int) (text:ByteArray) (refs:List ByteArray) (ra:Option Addr) (rc:Nat) (w:World) (h:DU w base d m O P L wd now given births ks ps ls) (ha:Sf wd now given births ks ps ls kd num text refs) (hr:CA w base (vB d m O P L) ra refs):
 Calls prog 62 #[.pointer (some ⟨d,0,none⟩),.agg #[.int .i64 kd,.string s,.string nm,.int .i64 num,.string text,.slice ra refs.length rc]] w fun e w'=>(∃c a b,Hk wd now given births ks ps ls kd s nm num text refs c a b/\e=.panicked [{v:=refV c a b,recovered:=false}]/\Tn (vB d m O P L) w w')∨(∃sm le,e=.returned (.agg #[.int .i64 0,.int .i64 0,.int .i64 0,.int .i64 0,.int .i64 0,.slice none 0 0,.slice none 0 0,.slice none 0 0,.string sm,.int .i64 le,.string ⟨#[]⟩,.string ⟨#[]⟩])/\(∃r,Eb wd now given births ks ps ls kd s nm num text refs r/\r.sm=sm/\r.le=le/\Gc base d m wd r w')/\Tn (vB d m O P L) w w'):=by
 have hP:∀b∈d::P.ownBlock.toList,b∈vB d m O P L:=by intro b hb;unfold vB;simp at hb ⊢;rcases hb with rfl|hb<;>simp[*]
 have hL:∀b∈d::L.ownBlock.toList,b∈vB d m O P L:=by intro b hb;unfold vB;simp at hb ⊢;rcases hb with rfl|hb<;>simp[*]
 have hD:∀X,Uq w X->DU X base d m O P L wd now given births ks ps ls:=fun X hX=>h.below hX;obtain rfl|rfl|rfl|rfl|rfl|rfl|rfl:kd=1∨kd=2∨kd=3∨kd=4∨kd=5∨kd=6∨kd=7:=by have:=ha.kd1;have:=ha.kd7;omega
 ·refine(Kx base d m O P L wd now given births ks ps ls s nm text num refs ra rc w h ha.kso ha.w1 ha.txt (GD _ _ _ ha.w1) ha.txl ha.rfn ha.births0 ha.births1 hr ha.nl ha.given0 ha.given1 ha.now0 ha.now1 ha.num0 ha.num1).mono ?_
  rintro e w' (⟨c,a,b,h1,rfl,ht⟩|⟨zD,births1,zB,hy,hl,hg,rfl,O',L',hd,ht⟩)
  ·exact .inl ⟨c,a,b,.inl ⟨rfl,h1⟩,rfl,ht⟩
  ·exact .inr ⟨_,_,rfl,⟨_,.inl ⟨rfl,zB,hl,hg,zD,births1,hy,rfl⟩,rfl,rfl,⟨_,_,_,hd.dr⟩⟩,ht⟩
 ·by_cases hth:Av ks s
  ·by_cases hroom:(∃x∈ps,x.name=nm)∨ps.length<100
   ·refine(Kt base d m O P L wd now given births ks ps ls s nm text num ra refs.length rc w h ha.kso.sz hth ha.np ha.psort hroom).mono ?_
    rintro e w' ⟨rfl,P',hd,ht⟩;exact .inr ⟨_,_,rfl,⟨_,.inr (.inl ⟨rfl,hth,hroom,rfl⟩),rfl,rfl,⟨_,_,_,hd.dr⟩⟩,ht.mono hP⟩
   ·have zC:¬∃x∈ps,x.name=nm:=fun e=>hroom (.inl e)
    have zA:ps.length=100:=by have:=ha.np;have h2:¬ps.length<100:=fun e=>hroom (.inr e);omega
    refine(GA d s nm text num ra refs.length rc 4 ⟨#[]⟩ ⟨#[]⟩ w (fun X hX=>PH base d m O P L wd now given births ks ps ls nm s X (hD X hX) ha.kso.sz hth zA ha.psort zC)).mono ?_;rintro e w' ⟨rfl,hb⟩;exact .inl ⟨4,_,_,.inr ⟨rfl,rfl,.inl ⟨rfl,.inr ⟨hth,zC,zA,rfl⟩⟩⟩,rfl,Tn.of hb⟩
  ·refine(GA d s nm text num ra refs.length rc 2 ⟨#[]⟩ ⟨#[]⟩ w (fun X hX=>Mg base d m O P L wd now given births ks ps ls nm s X (hD X hX) ha.kso.sz hth)).mono ?_
   rintro e w' ⟨rfl,hb⟩;exact .inl ⟨2,_,_,.inr ⟨rfl,rfl,.inl ⟨rfl,.inl ⟨hth,rfl⟩⟩⟩,rfl,Tn.of hb⟩
 ·by_cases hth:∃x∈ps,x.name=nm
  ·refine(IG base d m O P L wd now given births ks ps ls s nm text num ra refs.length rc w h (by have:=ha.np;omega) ha.psort hth).mono ?_
   rintro e w' ⟨rfl,P',hd,ht⟩;exact .inr ⟨_,_,rfl,⟨_,.inr (.inr (.inl ⟨rfl,hth,rfl⟩)),rfl,rfl,⟨_,_,_,hd.dr⟩⟩,ht.mono hP⟩
  ·refine(Jm d s nm text num ra refs.length rc 5 ⟨#[]⟩ ⟨#[]⟩ w (fun X hX=>PF base d m O P L wd now given births ks ps ls nm X (hD X hX) (by have:=ha.np;omega) ha.psort hth)).mono ?_
   rintro e w' ⟨rfl,hb⟩;exact .inl ⟨5,_,_,.inr ⟨rfl,rfl,.inr (.inl ⟨rfl,hth,rfl⟩)⟩,rfl,Tn.of hb⟩
 ·by_cases hth:Av ks s
  ·by_cases zA:ls.length=200∨given=1000000000
   ·refine(FB d s nm text num ra refs.length rc 4 ⟨#[]⟩ ⟨#[]⟩ w (fun X hX=>JS base d m O P L wd now given births ks ps ls s num X (hD X hX) ha.kso.sz hth zA)).mono ?_
    rintro e w' ⟨rfl,hb⟩;exact .inl ⟨4,_,_,.inr ⟨rfl,rfl,.inr (.inr (.inl ⟨rfl,.inr ⟨hth,zA,rfl⟩⟩))⟩,rfl,Tn.of hb⟩
   ·have hl:ls.length<200:=by have:=ha.nl;omega
    have hg:given<1000000000:=by have:=ha.given1;omega
    refine(IH base d m O P L wd now given births ks ps ls s nm text num ra refs.length rc w h ha.kso.sz hth hl ha.given0 hg ha.now0 ha.now1 ha.num0 ha.num1).mono ?_;rintro e w' ⟨rfl,L',hd,ht⟩;exact .inr ⟨_,_,rfl,⟨_,.inr (.inr (.inr (.inl ⟨rfl,hth,hl,hg,rfl⟩))),rfl,rfl,⟨_,_,_,hd.dr⟩⟩,ht.mono hL⟩
  ·refine(FB d s nm text num ra refs.length rc 2 ⟨#[]⟩ ⟨#[]⟩ w (fun X hX=>Lt base d m O P L wd now given births ks ps ls s num X (hD X hX) ha.kso.sz hth)).mono ?_
   rintro e w' ⟨rfl,hb⟩;exact .inl ⟨2,_,_,.inr ⟨rfl,rfl,.inr (.inr (.inl ⟨rfl,.inl ⟨hth,rfl⟩⟩))⟩,rfl,Tn.of hb⟩
 ·by_cases hth:∃x∈ls,x.num=num
  ·refine(Jk base d m O P L wd now given births ks ps ls s nm text num ra refs.length rc w h ha.nl ha.lsort hth).mono ?_
   rintro e w' ⟨rfl,L',hd,ht⟩;exact .inr ⟨_,_,rfl,⟨_,.inr (.inr (.inr (.inr (.inl ⟨rfl,hth,rfl⟩)))),rfl,rfl,⟨_,_,_,hd.dr⟩⟩,ht.mono hL⟩
  ·refine(Kp d s nm text num ra refs.length rc 5 ⟨#[]⟩ ⟨#[]⟩ w (fun X hX=>Re base d m O P L wd now given births ks ps ls num X (hD X hX) ha.nl ha.lsort hth)).mono ?_
   rintro e w' ⟨rfl,hb⟩;exact .inl ⟨5,_,_,.inr ⟨rfl,rfl,.inr (.inr (.inr (.inl ⟨rfl,hth,rfl⟩)))⟩,rfl,Tn.of hb⟩
 ·by_cases hs:now+num<=1000000000
  ·refine(Jl base d m O P L wd now given births ks ps ls s nm text num ra refs.length rc w h ha.nl ha.now0 ha.num0 hs).mono ?_
   rintro e w' ⟨rfl,L',hd,ht⟩;exact .inr ⟨_,_,rfl,⟨_,.inr (.inr (.inr (.inr (.inr (.inl ⟨rfl,hs,rfl⟩))))),rfl,rfl,⟨_,_,_,hd.dr⟩⟩,ht.mono hL⟩
  ·refine(Kq d s nm text num ra refs.length rc 4 ⟨#[]⟩ ⟨#[]⟩ w (fun X hX=>Om base d m O P L wd now given births ks ps ls num X (hD X hX) ha.now0 ha.now1 ha.num0 ha.num1 (by omega))).mono ?_
   rintro e w' ⟨rfl,hb⟩;exact .inl ⟨4,_,_,.inr ⟨rfl,rfl,.inr (.inr (.inr (.inr (.inl ⟨rfl,by omega,rfl⟩))))⟩,rfl,Tn.of hb⟩
 ·by_cases hth:Av ks s
  ·by_cases huse:IM ps ls ks s
   ·refine(Ia base d m O P L wd now given births ks ps ls s nm text num ra refs.length rc w h.dr ha.kso ha.np ha.nl hth huse).mono ?_
    rintro e w' ⟨rfl,hb⟩;exact .inl ⟨6,_,_,.inr ⟨rfl,rfl,.inr (.inr (.inr (.inr (.inr ⟨rfl,.inr ⟨hth,huse,rfl⟩⟩))))⟩,rfl,Tn.of hb⟩
   ·refine(IJ base d m O P L wd now given births ks ps ls s nm text num ra refs.length rc w h.dr ha.kso ha.np ha.nl hth huse).mono ?_
    rintro e w' ⟨rfl,O',hd,_,ht⟩;exact .inr ⟨_,_,rfl,⟨_,.inr (.inr (.inr (.inr (.inr (.inr ⟨rfl,hth,huse,rfl⟩))))),rfl,rfl,⟨_,_,_,hd⟩⟩,ht⟩
  ·refine(Gf base d m O P L wd now given births ks ps ls s nm text num ra refs.length rc w h.dr ha.kso.sz hth).mono ?_
   rintro e w' ⟨rfl,hb⟩;exact .inl ⟨2,_,_,.inr ⟨rfl,rfl,.inr (.inr (.inr (.inr (.inr ⟨rfl,.inl ⟨hth,rfl⟩⟩))))⟩,rfl,Tn.of hb⟩
section
section
variable {wd now given births:Int} {ks:List Kd} {ps:List Pd} {ls:List Ld}
theorem Fk {kd:Int} {s nm:ByteArray} {num:Int} {text:ByteArray} {refs:List ByteArray} (h:BA kd s nm num text refs wd=true):1<=kd/\kd<=7/\Qj kd.toNat s nm num text refs wd:=by
 unfold BA at h;simp only[Bool.and_eq_true,decide_eq_true_eq] at h;exact⟨h.1.1,h.1.2,DA h.2⟩
theorem PJ {kd:Int} {s nm:ByteArray} {num:Int} {text:ByteArray} {refs:List ByteArray} (h:BA kd s nm num text refs wd=true):refs.length<=30:=by
 unfold BA at h;simp only[Bool.and_eq_true,decide_eq_true_eq] at h;have h2:=h.2;unfold Ct at h2;simp only[Bool.and_eq_true,decide_eq_true_eq] at h2;have h3:=h2.2.2.2.2;unfold Hq at h3;split at h3
 ·exact(AY h3).refs
 ·have h4:=(of_decide_eq_true h3).2
  omega
theorem Oo (ks:List Kd) (x:Kd):(CD ks x).Perm (x::ks):=by
 unfold CD;have h1:(ks.filter (fun k=>less k.sum x.sum)++ks.filter (fun k=> !(less k.sum x.sum))).Perm ks:=List.filter_append_perm _ _;rw[List.append_assoc];exact(List.perm_middle (a:=x) (l₁:=ks.filter (fun k=>less k.sum x.sum)) (l₂:=ks.filter (fun k=> !(less k.sum x.sum)))).trans (h1.cons x)
theorem Mj (ps:List Pd) (n s:ByteArray):(CP ps n s).length<=ps.length+1/\((∃x∈ps,x.name=n)->(CP ps n s).length<=ps.length):=by
 have h:∀(l:List Pd),(l.filter (fun x=>less x.name n)).length+(l.filter (fun x=> !(less x.name n)&& !decide (x.name=n))).length+(l.filter (fun x=>decide (x.name=n))).length=l.length:=by
  intro l;induction l with
  |nil=>rfl
  |cons x l ih=>
   by_cases hn:x.name=n
   ·simp[hn,BL]
    omega
   ·cases hl:less x.name n<;>simp[hl,hn]<;>omega
 have h1:=h ps;unfold CP;rw[List.length_append,List.length_append];refine⟨by simp;omega,fun⟨x,hx,hxn⟩=> ?_⟩;have h2:0<(ps.filter (fun x=>decide (x.name=n))).length:=List.length_pos_of_mem (List.mem_filter.2 ⟨hx,by simpa using hxn⟩);simp;omega
structure TJ (wd:Int) (r:Rs):Prop where
 nd:(r.ks.map (·.sum)).Nodup
 sz:∀k∈r.ks,(k.sum.size:Int)=wd
 nk:r.ks.length<=600
 np:r.ps.length<=100
 nl:r.ls.length<=200
 refs:∀k∈r.ks,k.refs.length<=30
end
theorem Hk.code {wd now given births:Int} {ks:List Kd} {ps:List Pd} {ls:List Ld} {kd:Int} {s nm:ByteArray} {num:Int} {text:ByteArray} {refs:List ByteArray} {c:Int} {a b:ByteArray} (h:Hk wd now given births ks ps ls kd s nm num text refs c a b):2<=c/\c<=6:=by
 rcases h with⟨_,⟨_,rfl,_⟩|⟨_,⟨_,_,_,_,rfl,_⟩|⟨_,_,rfl,_⟩|⟨_,_,rfl,_⟩⟩⟩|⟨_,_,⟨_,⟨_,rfl⟩|⟨_,_,_,rfl⟩⟩|⟨_,_,rfl⟩|⟨_,⟨_,rfl⟩|⟨_,_,rfl⟩⟩|⟨_,_,rfl⟩|⟨_,_,rfl⟩|⟨_,⟨_,rfl⟩|⟨_,_,rfl⟩⟩⟩<;>omega
theorem Dr.notin {w:World} {base d m:Nat} {O P L:Value} {wd now given births:Int} {ks:List Kd} {ps:List Pd} {ls:List Ld} (h:Dr w base d m O P L wd now given births ks ps ls) {R:Nat} {zB:Array Value} (hR:w.heap[R]?=some (.cells zB 96)) (hd:R≠d):R∉vB d m O P L:=by
 unfold vB;simp only[List.mem_cons,List.mem_append,Option.mem_toList,not_or];refine⟨hd,?_,?_,?_,?_⟩
 ·rintro rfl
  obtain⟨n,f,_,hM,_⟩:=h.map;obtain⟨D,⟨es,clock,zA,_⟩,_⟩:=hM;rw[hR] at zA;cases zA
 ·intro e
  obtain⟨c,hc⟩:=Bu h.ord e;rw[hR] at hc;simp at hc
 ·intro e
  obtain⟨c,hc⟩:=Bu h.pin e;rw[hR] at hc;simp at hc
 ·intro e
  obtain⟨c,hc⟩:=Bu h.lea e;rw[hR] at hc;simp at hc
theorem Gc.stays {base d m:Nat} {wd:Int} {r:Rs} {w w':World} {R:Nat} {zA:Array Value} (h:Gc base d m wd r w) (hR:w.heap[R]?=some (.cells zA 96)) (hb:base<=R) (hd:R≠d) (ht:Tn [R] w w'):Gc base d m wd r w':=by
 obtain⟨O,P,L,hD⟩:=h;exact⟨O,P,L,hD.apart ht hb (hD.notin hR hd) (fun c fz e=>by rw[hR] at e;simp at e)⟩
end
section
section
variable {wd now given births:Int} {ks:List Kd} {ps:List Pd} {ls:List Ld} {kd:Int} {s nm:ByteArray} {num:Int} {text:ByteArray} {refs:List ByteArray}
theorem CV.det {k1 k2:List Kd} {b1 b2:Int} (h1:CV wd births ks text refs k1 b1) (h2:CV wd births ks text refs k2 b2):k1=k2/\b1=b2:=by
 rcases h1 with⟨k,hk,hs,_,rfl,rfl⟩|⟨zA,_,_,rfl,rfl⟩<;>rcases h2 with⟨k',hk',hs',_,rfl,rfl⟩|⟨hno',_,_,rfl,rfl⟩
 ·exact⟨rfl,rfl⟩
 ·exact absurd ⟨k,hk,hs⟩ hno'
 ·exact absurd ⟨k',hk',hs'⟩ zA
 ·exact⟨rfl,rfl⟩
theorem IL.not (zG:(ks.map (·.sum)).Nodup) {c:Int} {a b:ByteArray} (h1:IL wd given births ks ls text refs c a b) {k1:List Kd} {b1:Int} (h2:CV wd births ks text refs k1 b1) (zB:∀r∈refs,Av ks r) (hl:ls.length<200) (hg:given<1000000000):False:=by
 rcases h1 with⟨hn,_⟩|⟨_,⟨k,hk,hs,hf,_⟩|⟨zD,zA,_⟩|⟨_,zA,_⟩⟩
 ·exact hn zB
 ·rcases h2 with⟨k',zC,zE,zF,_⟩|⟨zD,_⟩
  ·have:=FN zG hk zC (hs.trans zE.symm)
   subst this;exact hf zF
  ·exact zD ⟨k,hk,hs⟩
 ·rcases h2 with⟨k',zC,zE,_⟩|⟨_,h3,h4,_⟩
  ·exact zD ⟨k',zC,zE⟩
  ·omega
 ·omega
theorem Eb.det {r r':Rs} (h1:Eb wd now given births ks ps ls kd s nm num text refs r) (h2:Eb wd now given births ks ps ls kd s nm num text refs r'):r=r':=by
 rcases h1 with⟨k1,_,_,_,zA,b1,y1,rfl⟩|⟨k1,_,_,rfl⟩|⟨k1,_,rfl⟩|⟨k1,_,_,_,rfl⟩|⟨k1,_,rfl⟩|⟨k1,_,rfl⟩|⟨k1,_,_,rfl⟩<;>rcases h2 with⟨k2,_,_,_,ks2,b2,y2,rfl⟩|⟨k2,_,_,rfl⟩|⟨k2,_,rfl⟩|⟨k2,_,_,_,rfl⟩|⟨k2,_,rfl⟩|⟨k2,_,rfl⟩|⟨k2,_,_,rfl⟩<;>first|rfl|omega|(obtain⟨rfl,rfl⟩:=y1.det y2;rfl)
theorem Hk.not (zB:(ks.map (·.sum)).Nodup) {c:Int} {a b:ByteArray} {r:Rs} (h1:Hk wd now given births ks ps ls kd s nm num text refs c a b) (h2:Eb wd now given births ks ps ls kd s nm num text refs r):False:=by
 rcases h2 with⟨k2,zA,hl,hg,zC,b2,y2,_⟩|⟨k2,g1,g2,_⟩|⟨k2,g1,_⟩|⟨k2,g1,g2,g3,_⟩|⟨k2,g1,_⟩|⟨k2,g1,_⟩|⟨k2,g1,g2,_⟩<;>rcases h1 with⟨k1,h1⟩|⟨_,_,⟨k1,⟨h1,_⟩|⟨h1,x1,z1,_⟩⟩|⟨k1,h1,_⟩|⟨k1,⟨h1,_⟩|⟨h1,x1,_⟩⟩|⟨k1,h1,_⟩|⟨k1,h1,_⟩|⟨k1,⟨h1,_⟩|⟨h1,x1,_⟩⟩⟩<;>first|omega|exact absurd g1 h1|exact absurd x1 g2|exact h1.not zB y2 zA hl hg|(rcases g2 with g2|g2;exact x1 g2;omega)
end
end
section
open Go.Proofs
theorem Er {a b:ByteArray} (h:a.toList=b.toList):a=b:=by
 rw[Lib.toList_data,Lib.toList_data] at h;cases a;cases b;simpa using h
theorem Lw {a b:ByteArray}:less a b=true↔a.toList<b.toList:=by
 unfold less;rw[bytesLess_eq,decide_eq_true_iff]
theorem Lx {a b:ByteArray} (h:less a b=false) (zA:a≠b):less b a=true:=by
 rw[Lw];have h1:¬a.toList<b.toList:=fun e=>by rw[Lw.2 e] at h;cases h
 have h2:=List.not_lt.1 h1;by_cases e:b.toList<a.toList
 ·exact e
 ·exact absurd (Er (Std.le_antisymm (List.not_lt.1 e) h2)) zA
end
section
structure EH (wd now given births:Int) (ks:List Kd) (ps:List Pd) (ls:List Ld):Prop where
 kso:En wd ks
 w1:1<=wd
 np:ps.length<=100
 nl:ls.length<=200
 psort:ps.Pairwise (fun a b=>less a.name b.name=true)
 lsort:ls.Pairwise (fun a b=>a.num<b.num)
 now0:0<=now
 now1:now<=1000000000
 given0:0<=given
 given1:given<=1000000000
 births0:0<=births
 births1:births<=1000000000
 txt:∀k∈ks,k.text.size<=2000
 r30:∀k∈ks,k.refs.length<=30
 lnum:∀x∈ls,x.num<=given
theorem EH.zero {wd:Int} (h1:1<=wd) (h8:wd<=8):EH wd 0 0 0 [] [] []:=
 ⟨⟨by simp,by simp,by simp,by intro k hk;simp at hk,by simp,h8⟩,h1,by simp,by simp,by simp,by simp,by omega,by omega,by omega,by omega,by omega,by omega,by simp,by simp,by simp⟩
section
variable {wd now given births:Int} {ks:List Kd} {ps:List Pd} {ls:List Ld} {kd:Int} {s nm:ByteArray} {num:Int} {text:ByteArray} {refs:List ByteArray}
theorem EH.aok (h:EH wd now given births ks ps ls) (he:BA kd s nm num text refs wd=true) (ht:text.size<=maxLen):Sf wd now given births ks ps ls kd num text refs:=by
 obtain⟨k1,k7,e⟩:=Fk he;exact⟨h.kso,h.w1,h.np,h.nl,h.psort,h.lsort,h.now0,h.now1,h.given0,h.given1,h.births0,h.births1,k1,k7,e.n0,e.n1,fun k hk=>by have:=h.txt k hk;unfold maxLen;omega,ht,by have:=PJ he;omega⟩
theorem PK (h:BA kd s nm num text refs wd=true):text.size<=2000:=by
 unfold BA at h;simp only[Bool.and_eq_true,decide_eq_true_eq] at h;have h2:=h.2;unfold Ct at h2;simp only[Bool.and_eq_true,decide_eq_true_eq] at h2;have h3:=h2.2.2.2.2;unfold Hq at h3;split at h3
 ·exact(AY h3).text
 ·have h4:=(of_decide_eq_true h3).1
  omega
theorem Mk {ps:List Pd} (n s:ByteArray) (h:ps.Pairwise (fun a b=>less a.name b.name=true)):(CP ps n s).Pairwise (fun a b=>less a.name b.name=true):=by
 unfold CP;rw[List.pairwise_append,List.pairwise_append];have zA:∀y∈ps.filter (fun x=> !(less x.name n)&& !decide (x.name=n)),less n y.name=true:=fun y hy=>by
  have h2:=(List.mem_filter.1 hy).2;simp only[Bool.and_eq_true,Bool.not_eq_true',decide_eq_false_iff_not] at h2;exact Lx h2.1 h2.2
 refine⟨⟨h.filter _,by simp,fun x hx y hy=> ?_⟩,h.filter _,fun x hx y hy=> ?_⟩
 ·rw[List.mem_singleton] at hy
  subst hy;exact(List.mem_filter.1 hx).2
 ·rcases List.mem_append.1 hx with hx|hx
  ·exact BX (List.mem_filter.1 hx).2 (zA y hy)
  ·rw[List.mem_singleton] at hx
   subst hx;exact zA y hy
theorem Ml {ks:List Kd} {x:Kd} (h:(ks.map (·.sum)).Pairwise (fun a b=>less a b=true)) (zB:¬Av ks x.sum):((CD ks x).map (·.sum)).Pairwise (fun a b=>less a b=true):=by
 rw[List.pairwise_map] at h ⊢;unfold CD;rw[List.pairwise_append,List.pairwise_append];have zA:∀y∈ks.filter (fun k=> !(less k.sum x.sum)),less x.sum y.sum=true:=fun y hy=>by
  obtain⟨h1,h2⟩:=List.mem_filter.1 hy;simp only[Bool.not_eq_true'] at h2;exact Lx h2 (fun e=>zB ⟨y,h1,e⟩)
 refine⟨⟨h.filter _,by simp,fun y hy z hz=> ?_⟩,h.filter _,fun y hy z hz=> ?_⟩
 ·rw[List.mem_singleton] at hz
  subst hz;exact(List.mem_filter.1 hy).2
 ·rcases List.mem_append.1 hy with hy|hy
  ·exact BX (List.mem_filter.1 hy).2 (zA z hz)
  ·rw[List.mem_singleton] at hy
   subst hy;exact zA z hz
theorem En.drop (h:En wd ks) (t:ByteArray):En wd (Ez ks t):=by
 have zA:(Ez ks t).Sublist ks:=List.filter_sublist;exact⟨h.nd.sublist (zA.map _),h.sorted.sublist (zA.map _),fun k hk=>h.sz k (zA.subset hk),fun k hk=>h.refs k (zA.subset hk),Uz zA.length_le h.len,h.w8⟩
theorem EH.step (h:EH wd now given births ks ps ls) (he:BA kd s nm num text refs wd=true) {r:Rs} (hy:Eb wd now given births ks ps ls kd s nm num text refs r):EH wd r.now r.given r.births r.ks r.ps r.ls:=by
 obtain⟨k1,k7,e⟩:=Fk he;have zL:=e.n0;have zM:=e.n1;have zC:∀x:Ld,x.num=given+1->(ls++[x]).Pairwise (fun a b=>a.num<b.num)/\∀y∈ls++[x],y.num<=given+1:=fun x hx=>by
  refine⟨?_,fun y hy=> ?_⟩
  ·rw[List.pairwise_append]
   refine⟨h.lsort,by simp,fun y hy z hz=> ?_⟩;rw[List.mem_singleton] at hz;subst hz;have:=h.lnum y hy;omega
  ·rcases List.mem_append.1 hy with hy|hy
   ·have:=h.lnum y hy
    omega
   ·rw[List.mem_singleton] at hy
    subst hy;omega
 rcases hy with⟨rfl,_,hl,hg,zN,b1,hy,rfl⟩|⟨_,_,zB,rfl⟩|⟨_,_,rfl⟩|⟨_,_,hl,hg,rfl⟩|⟨_,_,rfl⟩|⟨_,ht,rfl⟩|⟨_,_,_,rfl⟩
 ·have zE:(ls++[(⟨given+1,AX text refs wd,now+num⟩:Ld)]).length<=200:=by simp;omega
  have hL:=zC ⟨given+1,AX text refs wd,now+num⟩ rfl;have zG:=h.given0;have zD:=AY (e.thing rfl);rcases hy with⟨_,_,_,_,rfl,rfl⟩|⟨zI,zK,hb,rfl,rfl⟩
  ·exact⟨h.kso,h.w1,h.np,zE,h.psort,hL.1,h.now0,h.now1,by show 0<=given+1;omega,by show given+1<=_;omega,h.births0,h.births1,h.txt,h.r30,hL.2⟩
  ·have hp:=Oo ks ⟨AX text refs wd,births+1,text,refs⟩
   have zJ:=h.births0;have zA:∀k∈CD ks ⟨AX text refs wd,births+1,text,refs⟩,k=⟨AX text refs wd,births+1,text,refs⟩∨k∈ks:=fun k hk=>List.mem_cons.1 (hp.mem_iff.1 hk);have zH:En wd (CD ks ⟨AX text refs wd,births+1,text,refs⟩):=by
    have hs:=Ml (x:=⟨AX text refs wd,births+1,text,refs⟩) h.kso.sorted zI;refine⟨Mi hs,hs,fun k hk=> ?_,fun k hk=> ?_,by rw[FO];omega,h.kso.w8⟩
    ·rcases zA k hk with rfl|hk
     ·exact GD _ _ _ h.w1
     ·exact h.kso.sz k hk
    ·rcases zA k hk with rfl|hk
     ·exact⟨by have:=zD.refs;show refs.length<=_;omega,On zD.all⟩
     ·exact h.kso.refs k hk
   refine⟨zH,h.w1,h.np,zE,h.psort,hL.1,h.now0,h.now1,by show 0<=given+1;omega,by show given+1<=_;omega,by show 0<=births+1;omega,by show births+1<=_;omega,fun k hk=> ?_,fun k hk=> ?_,hL.2⟩
   ·rcases zA k hk with rfl|hk
    ·exact zD.text
    ·exact h.txt k hk
   ·rcases zA k hk with rfl|hk
    ·exact zD.refs
    ·exact h.r30 k hk
 ·have zF:=Mj ps nm s
  refine⟨h.kso,h.w1,?_,h.nl,Mk nm s h.psort,h.lsort,h.now0,h.now1,h.given0,h.given1,h.births0,h.births1,h.txt,h.r30,h.lnum⟩;rcases zB with zB|zB
  ·exact Uz (zF.2 zB) h.np
  ·exact Uz zF.1 (by omega)
 ·exact⟨h.kso,h.w1,Uz (List.length_filter_le _ _) h.np,h.nl,h.psort.filter _,h.lsort,h.now0,h.now1,h.given0,h.given1,h.births0,h.births1,h.txt,h.r30,h.lnum⟩
 ·have hL:=zC ⟨given+1,s,now+num⟩ rfl
  have zG:=h.given0;exact⟨h.kso,h.w1,h.np,by simp;omega,h.psort,hL.1,h.now0,h.now1,by show 0<=given+1;omega,by show given+1<=_;omega,h.births0,h.births1,h.txt,h.r30,hL.2⟩
 ·exact⟨h.kso,h.w1,h.np,Uz (List.length_filter_le _ _) h.nl,h.psort,h.lsort.filter _,h.now0,h.now1,h.given0,h.given1,h.births0,h.births1,h.txt,h.r30,fun x hx=>h.lnum x (List.mem_filter.1 hx).1⟩
 ·have:=h.now0
  exact⟨h.kso,h.w1,h.np,Uz (List.length_filter_le _ _) h.nl,h.psort,h.lsort.filter _,by show 0<=now+num;omega,ht,h.given0,h.given1,h.births0,h.births1,h.txt,h.r30,fun x hx=>h.lnum x (List.mem_filter.1 hx).1⟩
 ·exact⟨h.kso.drop s,h.w1,h.np,h.nl,h.psort,h.lsort,h.now0,h.now1,h.given0,h.given1,h.births0,h.births1,fun k hk=>h.txt k (List.mem_filter.1 hk).1,fun k hk=>h.r30 k (List.mem_filter.1 hk).1,h.lnum⟩
end
end
def Dl (k:Int):Bool:=decide (1<=k/\k<=7)
def Du (k:Int):Bool:=Dl k&&CJ k.toNat
def CE (k:Int):Bool:=Dl k&&CY k.toNat
def BD (k:Int):Bool:=Dl k&&BO k.toNat
def Dv (k:Int):Int:=if Dl k=true then Cq k.toNat else 0
theorem Mm (k:Int) (w:World) (hT:Gl w):
 Calls prog 80 #[.int .i64 k] w fun e w'=>e=.returned (.tuple #[.agg #[.bool (Du k),.bool (CE k),.bool (BD k),.int .i64 (Dv k)],.bool (Dl k)])/\Uq w w':=by
 by_cases hk:1<=k/\k<=7
 ·obtain⟨m,rfl⟩:∃m:Nat,k=m:=⟨k.toNat,by omega⟩
  have hi:Dl (m:Int)=true:=decide_eq_true hk;rw[show Du (m:Int)=CJ m by simp[Du,hi],show CE (m:Int)=CY m by simp[CE,hi],show BD (m:Int)=BO m by simp[BD,hi],show Dv (m:Int)=Cq m by simp[Dv,hi],hi];exact Hd m w hT (by omega) (by omega)
 ·have hi:Dl k=false:=decide_eq_false hk
  rw[show Du k=false by simp[Du,hi],show CE k=false by simp[CE,hi],show BD k=false by simp[BD,hi],show Dv k=0 by simp[Dv,hi],hi];exact Ij k w hk
theorem PL (n:Int) (w:World):
 Calls prog 16 #[.int .i64 n] w fun e w'=>e=.returned (.bool (decide (1<=n/\n<=8)))/\w'=w:=by
 by_cases h1:1<=n
 ·by_cases h2:n<=8
  ·go_enter func16,ntmps16
   go_wp2;go_ret;exact⟨AH (by simp[h1,h2]),rfl⟩
  ·have zB:decide (n<=8)=false:=by simpa using h2
   go_enter func16,ntmps16;go_wp2;go_ret;exact⟨rfl,rfl⟩
 ·have zA:decide (1<=n)=false:=by simpa using h1
  go_enter func16,ntmps16;go_wp2;go_ret;exact⟨rfl,rfl⟩
def EE (wd:Int):Bool:= !decide (1<=wd/\wd<=8)
def Da (s:ByteArray) (wd:Int):ByteArray×ByteArray×Bool:=AL s (EE wd) (1:Nat)
def Az (s:ByteArray) (wd:Int):Int:=BH (Da s wd).1.data.toList
def Ec (s:ByteArray) (wd:Int):Bool:=(Da s wd).2.2|| !Dl (Az s wd)
def CQ (s:ByteArray) (wd:Int):ByteArray×ByteArray×Bool:=AL (Da s wd).2.1 (Ec s wd) (4:Nat)
def DB (s:ByteArray) (wd:Int):Int:=BH (CQ s wd).1.data.toList
def DL (s:ByteArray) (wd:Int):ByteArray×ByteArray×Bool:=AL (CQ s wd).2.1 (CQ s wd).2.2 (1:Nat)
def JU (s:ByteArray) (wd:Int):Int:=BH (DL s wd).1.data.toList
def Be (s:ByteArray) (wd:Int):ByteArray×ByteArray×Bool:=AL (DL s wd).2.1 (DL s wd).2.2 (JU s wd)
def AI (s:ByteArray) (wd:Int):ByteArray×ByteArray×Bool:=if CE (Az s wd)=true then AL (Be s wd).2.1 (Be s wd).2.2 wd else (⟨#[]⟩,(Be s wd).2)
def AG (s:ByteArray) (wd:Int):ByteArray×List ByteArray:=if BD (Az s wd)=true then ((rd (Dy (AI s wd).2.1 (AI s wd).2.2) wd).1,(rd (Dy (AI s wd).2.1 (AI s wd).2.2) wd).2.1) else (⟨#[]⟩,[])
def BR (s:ByteArray) (wd:Int):ByteArray×Bool:=if BD (Az s wd)=true then (Gn (AI s wd).2.1 (AI s wd).2.2,Ex (AI s wd).2.1 (AI s wd).2.2 wd) else (AI s wd).2
def Ee (s:ByteArray) (wd:Int):Bool:=(BR s wd).2|| !decide ((BR s wd).1.size=0)
def GF (s:ByteArray) (wd:Int):Bool:=BA (Az s wd) (AI s wd).1 (Be s wd).1 (DB s wd) (AG s wd).1 (AG s wd).2 wd
def BI (s:ByteArray) (wd:Int):Bool:=Ee s wd|| !GF s wd
theorem DQ {rest:ByteArray} {bad:Bool} {n:Int} (h:(AL rest bad n).2.2=false):bad=false:=by
 unfold AL at h;cases bad
 ·rfl
 ·simp at h
theorem Rm (s:ByteArray) (wd:Int):(rd s wd).1.size<=s.size:=by
 unfold rd;split
 ·split
  ·exact Nat.zero_le _
  ·unfold JF DT
   split
   ·simp;omega
   ·exact Nat.zero_le _
 ·exact Nat.zero_le _
theorem Dw (rest:ByteArray) (bad:Bool) (n:Int):(AL rest bad n).1.size<=rest.size/\(AL rest bad n).2.1.size<=rest.size:=by
 unfold AL;split
 ·exact⟨Nat.zero_le _,Us⟩
 ·split
  ·exact⟨Nat.zero_le _,Us⟩
  ·simp;omega
structure EW (w W:World) (b:Nat) (rest:ByteArray) (kind:Int) (bad:Bool):Prop where
 rs:CG W b rest kind bad
 env:Env W
 gr:w.grownBy W (some b)
 res:Aa W w.heap.size [.int .i64 0,.string ⟨#[]⟩,.string ⟨#[]⟩,.int .i64 0,.string ⟨#[]⟩,.slice none 0 0]
def KI (b:Nat):Prop:=∀g∈[0,1,2,3,6,7,5,4],g<b
theorem EW.step {w W W':World} {b:Nat} {rest zB:ByteArray} {kind zA:Int} {bad zC:Bool} (h:EW w W b rest kind bad) (ha:KI b) (hb:b<w.heap.size) (hr:CG W' b zB zA zC) (hg:W.grownBy W' (some b)):EW w W' b zB zA zC:=
 ⟨hr,h.env.but hg ha,h.gr.trans hg,h.res.far hg hb⟩
theorem EW.below {w W W':World} {b:Nat} {rest:ByteArray} {kind:Int} {bad:Bool} (h:EW w W b rest kind bad) (hb:Uq W W'):EW w W' b rest kind bad:=
 ⟨h.rs.below hb,h.env.below hb,h.gr.trans (Aj _ hb),h.res.below hb⟩
theorem EW.set {w W:World} {b:Nat} {rest:ByteArray} {kind:Int} {bad:Bool} (h:EW w W b rest kind bad) (ha:KI b) (hb:b<w.heap.size) (B j:Nat) (v:Value) (hB:w.heap.size<B):EW w (W.setCell ⟨B,j,none⟩ v) b rest kind bad:=
 ⟨h.rs.far (Ae W B j v) (by omega),h.env.but (Ae W B j v) (fun g hg=>by have:=ha g hg;omega),h.gr.andThen (Ae W B j v) (fun j' e=>by cases e;exact .inl (by omega)),h.res.far' (Ae W B j v) (by omega)⟩
theorem Nd (s:ByteArray) (wd:Int):0<=JU s wd:=(Io _).1
theorem PM {s:ByteArray} {wd:Int} (h:(Be s wd).2.2=false):0<=wd:=by
 have h3:=DQ h;have h2:=DQ h3;have h1:=DQ h2;unfold Ec at h1;have h0:=DQ (Bool.or_eq_false_iff.1 h1).1;unfold EE at h0;simp at h0;omega
theorem Ro {s:ByteArray} {wd:Int} (hs:s.size<=1048576):(Be s wd).1.size<=1048576/\(AI s wd).2.1.size<=1048576/\(AG s wd).1.size<=1048576/\(BR s wd).1.size<=1048576:=by
 have h1:=Dw s (EE wd) (1:Nat);have h2:=Dw (Da s wd).2.1 (Ec s wd) (4:Nat);have h3:=Dw (CQ s wd).2.1 (CQ s wd).2.2 (1:Nat);have h4:=Dw (DL s wd).2.1 (DL s wd).2.2 (JU s wd);have h5:=Dw (Be s wd).2.1 (Be s wd).2.2 wd;have k1:=Uz h1.2 hs;have k2:=Uz h2.2 k1;have k3:=Uz h3.2 k2;have k4:=Uz h4.2 k3;have zA:=Uz h4.1 k3;have k5:(AI s wd).2.1.size<=1048576:=by
  unfold AI;split
  ·exact Uz h5.2 k4
  ·exact k4
 refine⟨zA,k5,?_,?_⟩
 ·unfold AG
  split
  ·exact Uz (Rm _ _) (Mx k5)
  ·exact Nat.zero_le _
 ·unfold BR
  split
  ·exact Uz (Dw _ _ _).2 k5
  ·exact k5
theorem PN (s:ByteArray) (wd:Int):(AG s wd).2.length<=255:=by
 unfold AG;split
 ·exact Sx _ _
 ·exact Nat.zero_le _
theorem EW.lt {w W:World} {b:Nat} {rest:ByteArray} {kind:Int} {bad:Bool} (h:EW w W b rest kind bad):w.heap.size<W.heap.size:=h.res.lt
end Go.Proofs.YtflhhhnlhlaehaaGreatDoor
