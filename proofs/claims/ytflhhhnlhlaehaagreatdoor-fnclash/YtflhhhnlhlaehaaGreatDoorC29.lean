import Derived.Test.YtflhhhnlhlaehaaGreatDoorC28
set_option maxRecDepth 100000
set_option maxHeartbeats 16000000
namespace Go.Proofs.YtflhhhnlhlaehaaGreatDoor
open Go.ChangeShapes Go.WideShapes Go.ChangeAt Go.RowKit _root_.Go.Proofs.Tryz
theorem LL {w:World} {base:Nat} {ra:Option Addr} {rc:Nat} {ss:List ByteArray} (h:w.ownsRow base 9 1 (.slice ra ss.length rc) ss.length (ss.map Value.string)):Ad w w.heap.size ra ss/\(ra=none->ss.length=0/\rc=0):=by
 rcases h.2 with⟨hv,h0⟩|⟨g,cap,zB,hv,_,_,zA,_⟩
 ·injection hv with e1 e2 e3
  subst e1;exact⟨.inl (List.eq_nil_of_length_eq_zero h0),fun _=>⟨h0,e3⟩⟩
 ·cases hv
  exact⟨Ad.own h,fun e=>by cases e⟩
theorem CX.fin {w V:World} {b:Nat} {a:Option Addr} {n c:Nat} {p p' K:Int} {TX RF Q:Nat} {t':ByteArray} {zA:Option Addr} {zB:Nat} {L:List ByteArray} (ht:t'.size<=TX) (hL:L.length<=RF) (hs:∀s∈L,s.size<=8)
 (ho:V.ownsRow (Q+1) 9 1 (.slice zA L.length zB) L.length (L.map Value.string)) (hr:AR V b a n c p') (h1:p<=p') (h2:p'<=p+K) (hg:w.grownBy V (some b)) (hQ:w.heap.size<Q) (hb:b<w.heap.size):
 CX w ((V.setCell ⟨Q,0,none⟩ (.string t')).setCell ⟨Q,1,none⟩ (.slice zA L.length zB)) (.returned (.agg #[.string t',.slice zA L.length zB])) b a n c p K TX RF:=by
 refine⟨⟨t',_,_,L,rfl,ht,hL,hs,?_⟩,⟨p',?_,h1,h2⟩,?_⟩
 ·exact(ownsRow_setCell_below (ownsRow_setCell_below ho (a:=⟨Q,0,none⟩) (Nat.lt_succ_self Q) _) (a:=⟨Q,1,none⟩) (Nat.lt_succ_self Q) _).mono (by omega)
 ·exact(hr.grown (Ae _ Q 0 _) (by omega)).grown (Ae _ Q 1 _) (by omega)
 ·exact(hg.andThen (Ae _ Q 0 _) (fun i e=>by cases e;exact .inl (by omega))).andThen (Ae _ Q 1 _) (fun i e=>by cases e;exact .inl (by omega))
theorem Jy (b:Nat) (a:Option Addr) (n c:Nat) (p:Int) (t:ByteArray) (ra:Option Addr) (rc:Nat) (ss:List ByteArray) (w:World) (h:AR w b a n c p) (hp:0<=p) (xU:p<=800000)
 (hr:Ad w w.heap.size ra ss) (yB:ra=none->ss.length=0/\rc=0) (ht:t.size<=16) (hl:ss.length<=3) (hs:∀s∈ss,s.size<=8):
 Calls prog 35 #[.pointer (some ⟨b,0,none⟩),.agg #[.string t,.slice ra ss.length rc]] w fun e w'=>CX w w' e b a n c p 2 2001 31:=by
 obtain⟨i0,hi,yF,yH,yI⟩:=info_parts Cv;have zI:=h.lt;obtain⟨W0,zL⟩:∃W0,W0=w.alloc (.cells #[.string t,.slice ra ss.length rc] 40):=⟨_,rfl⟩;have zU:Below w.heap.size w W0:=by rw[zL];exact Ur
 have T0:Aa W0 w.heap.size [.string t,.slice ra ss.length rc]:=by rw[zL];exact Aa.new w _ _
 have yG:W0.heap.size=w.heap.size+1:=by rw[zL];simp
 obtain⟨W,hW⟩:∃W,W=W0.alloc (.cells #[.string ⟨#[]⟩,.slice none 0 0] 40):=⟨_,rfl⟩;have zV:Below W0.heap.size W0 W:=by rw[hW];exact Ur
 have R1:Aa W W0.heap.size [.string ⟨#[]⟩,.slice none 0 0]:=by rw[hW];exact Aa.new W0 _ _
 have T1:=T0.below zV;have zQ:Below w.heap.size w W:=zU.trans (zV.mono zU.size);obtain⟨Q,hQ⟩:∃Q,Q=W0.heap.size:=⟨_,rfl⟩;have zH:w.heap.size<Q:=by omega
 rw[←hQ] at R1;have HZ:Hid (w.heap.size+1=Q):=by show _=_;omega
 obtain⟨t0,_⟩:=T1 0 _ rfl;obtain⟨t1,_⟩:=T1 1 _ rfl;have yK:Hid _:=zL;have HW:Hid _:=hW;have HR:Hid (Ad W W.heap.size ra ss):=hr.below' zQ;have HC:Hid (Aa W Q [.string ⟨#[]⟩,.slice none 0 0]/\AR W b a n c p/\w.grownBy W (some b)):=⟨R1,h.below zQ,Aj _ zQ⟩;have xO:Q<W.heap.size:=R1.lt;clear zL hW hQ zU zV T0 R1 T1 zQ yG h hr;go_enter func35,ntmps35;go_upto_region 1 with fail;rw[←yK.o,←HW.o,HZ.o]
 clear yK HW HZ;go_wp2_with fail;refine(Mr t ra rc ss W HR.o yB (by omega)).mono ?_;rintro e w1 ⟨g,gc,rfl,yC,zT⟩;obtain⟨W2,zS⟩:∃W2,W2=w1.alloc (.cells #[.string t,.slice (some ⟨g,0,none⟩) ss.length gc] 40):=⟨_,rfl⟩;have zW:Below w1.heap.size w1 W2:=by rw[zS];exact Ur
 have zE:Below W.heap.size W W2:=zT.trans (zW.mono zT.size);obtain⟨B,hB⟩:∃B,B=w1.heap.size:=⟨_,rfl⟩;have B2:Aa W2 B [.string t,.slice (some ⟨g,0,none⟩) ss.length gc]:=by rw[zS,hB];exact Aa.new w1 _ _
 have xM:Q<B:=by have:=zT.size;omega
 have xA:=yC.lt g rfl;have xB:g<B:=by rw[hB];exact xA.2
 have O2:W2.ownsRow (Q+1) 9 1 (.slice (some ⟨g,0,none⟩) ss.length gc) ss.length (ss.map Value.string):=(yC.kept (Aj none zW) (Classical.em _)).mono (by omega);have HD:Hid (Aa W2 Q [.string ⟨#[]⟩,.slice none 0 0]/\AR W2 b a n c p/\w.grownBy W2 (some b)):=⟨HC.o.1.below zE,HC.o.2.1.below zE,HC.o.2.2.trans (Aj _ zE)⟩;have yL:Hid _:=zS;have HB:Hid _:=hB;have HE:Hid _:=And.intro B2 O2
 clear zS hB zW zE HC HR B2 O2 yC zT t0 t1;go_upto_region 2 with fail;rw[←yL.o,←HB.o];clear yL HB;go_wp2_with fail;refine(Bi b a n c p 5 W2 HD.o.2.1 (by omega) (by omega) (by omega) (by omega)).mono ?_;rintro e w3 ⟨r,rfl,r0,r1,s3,g3⟩;have R3:Hid (Aa w3 Q [.string ⟨#[]⟩,.slice none 0 0]/\AR w3 b a n c (p+1)/\w.grownBy w3 (some b)):=⟨HD.o.1.far g3 (by omega),s3,HD.o.2.2.trans g3⟩
 have B3:Hid (Aa w3 B [.string t,.slice (some ⟨g,0,none⟩) ss.length gc]):=Aa.far HE.o.1 g3 (by omega);have xR:Q+1<=g:=(World.ownsRow.lt HE.o.2 g rfl).1;have O3:Hid (w3.ownsRow (Q+1) 9 1 (.slice (some ⟨g,0,none⟩) ss.length gc) ss.length (ss.map Value.string)):=World.ownsRow.kept HE.o.2 g3 (.inr (by simp[Value.ownBlock];omega));clear HD HE s3 g3;have yO:B<w3.heap.size:=B3.o.lt
 obtain⟨x0,f0⟩:=B3.o 0 _ rfl;obtain⟨x1,f1⟩:=B3.o 1 _ rfl;obtain⟨y0,q0⟩:=R3.o.1 0 _ rfl;obtain⟨y1,q1⟩:=R3.o.1 1 _ rfl;have yQ:¬B=Q:=by omega
 have xF:¬Q=B:=by omega
 by_cases c0:r=0
 ·subst c0
  go_wp2_with fail;refine(Bi b a n c (p+1) 2 w3 R3.o.2.1 (by omega) (by omega) (by omega) (by omega)).mono ?_;rintro e w4 ⟨r',rfl,xH,xI,s4,g4⟩;obtain⟨m,rfl⟩:∃m:Nat,r'=m:=⟨r'.toNat,by omega⟩;have yA:=Nv ⟨#[116]⟩ (2000+m) w4 (by decide) (by show 1 *(2000+m)<=100000;omega);rw[show((2000+m:Nat):Int)=2000+(m:Int) by omega] at yA;have HM:Hid _:=yA;have X4:=B3.o.far g4 (by omega)
  have Y4:=R3.o.1.far g4 (by omega);have O4:=O3.o.kept g4 (.inr (by simp[Value.ownBlock];omega));have G4:=R3.o.2.2.trans g4;clear yA x0 x1 f0 f1 y0 y1 q0 q1;go_wp2_with fail;refine Calls.mono HM.o ?_;rintro e w5 ⟨T,rfl,hT,yS⟩;rw[yS];clear yS w5;obtain⟨x0,f0⟩:=X4 0 _ rfl;obtain⟨x1,f1⟩:=X4 1 _ rfl;obtain⟨y0,q0⟩:=Y4 0 _ rfl;obtain⟨y1,q1⟩:=Y4 1 _ rfl
  have HT:Hid (T.size<=2001):=by show _<=_;rw[hT];show 1 *(2000+m)<=2001;omega
  clear hT;go_wp2;refine bodyPost_ret (v:=.agg #[.string T,.slice (some ⟨g,0,none⟩) ss.length gc]) (by simp[results,results35,go_sem, *]) rfl ?_;refine CX.fin HT.o (by omega) hs (O4.kept (Ae _ B 0 _) (.inr (by simp[Value.ownBlock];omega))) (s4.grown (Ae _ B 0 _) (by omega)) (by omega) (by omega) (G4.andThen (Ae _ B 0 _) (fun i e=>by cases e;exact .inl (by omega))) zH zI
 ·have d0:(r==0)=false:=by simpa using c0
  by_cases c1:r=1
  ·subst c1
   go_wp2_with (first
    |(at_builtin;refine wpList_append_own_at _ rfl _ _ 25 rfl (Q+1) 9 i0 (.string ⟨#[]⟩) 1 16 underlying25 hi yF yH yI rfl (by decide) _ ss.length (ss.map Value.string) rfl ?d0 ⟨w3.heap.size,0,none⟩ 1 1 [.string ⟨#[120]⟩] rfl rfl ?d1 ?d2 ?d3 ?d4 ?d5 ?_))
   case d0=>exact O3.o.alloc _
   case d1=>
    intro j u hu;cases j with
    |zero=>simp at hu;subst hu;simp[Addr.add]
    |succ j=>simp at hu
   case d2=>intro u hu;simp at hu;subst hu;rfl
   case d3=>unfold maxLen;omega
   case d4=>omega
   case d5=>simp;omega
   intro v' w6 zA zB zC zN;obtain⟨g6,c6,yE⟩:∃g6 c6,v'=.slice (some ⟨g6,0,none⟩) (ss.length+1) c6:=by
    rcases Joins.ownsRow_forms zA with⟨e1,_⟩|hf
    ·exact(zC e1).elim
    ·exact hf
   subst yE;have b6:Below (Q+1) w3 w6:=((Below.refl _ _).alloc (by omega) _).grown zB (by simp;omega) (fun i hi=>by simp[Value.ownBlock] at hi;omega);have zD:w3.grownBy w6 (some g):=⟨b6.os,b6.tape,b6.output,b6.size,fun i hi yQ=>by
    have h1:=zB.block i (by simp;omega) (by simpa [Value.ownBlock] using yQ);rw[h1];exact(Aj none ((Below.refl w3.heap.size w3).alloc (Us) _)).block i hi (by simp)⟩
   have X6:=B3.o.far' zD (by omega);have Y6:=R3.o.1.far' zD (by omega);have G6:=R3.o.2.2.andThen zD (fun i e=>by cases e;exact .inl (by omega));have S6:=R3.o.2.1.grown zD (by omega);have xQ:=zA.lt g6 rfl;have zF:g6≠B:=by
    rcases zN with h|h<;>simp[Value.ownBlock] at h<;>omega
   have O6:w6.ownsRow (Q+1) 9 1 (.slice (some ⟨g6,0,none⟩) (ss++[ByteArray.mk #[120]]).length c6) (ss++[ByteArray.mk #[120]]).length ((ss++[ByteArray.mk #[120]]).map Value.string):=by
    have:(ss++[ByteArray.mk #[120]]).length=ss.length+1:=by simp
    rw[this,List.map_append];exact zA
   have HF:Hid _:=And.intro G6 (And.intro S6 O6);clear zA zB zC zN x0 x1 f0 f1 y0 y1 q0 q1;obtain⟨x0,f0⟩:=X6 0 _ rfl;obtain⟨x1,f1⟩:=X6 1 _ rfl;obtain⟨y0,q0⟩:=Y6 0 _ rfl;obtain⟨y1,q1⟩:=Y6 1 _ rfl;go_wp2;refine bodyPost_ret (v:=.agg #[.string t,.slice (some ⟨g6,0,none⟩) (ss.length+1) c6]) (by simp[results,results35,go_sem, *]) rfl ?_;have zG:ss.length+1=(ss++[ByteArray.mk #[120]]).length:=by simp
   rw[zG];refine CX.fin (by omega) (by simp;omega) ?_ (HF.o.2.2.kept (Ae _ B 1 _) (.inr (by simp[Value.ownBlock];omega))) (HF.o.2.1.grown (Ae _ B 1 _) (by omega)) (by omega) (by omega) (HF.o.1.andThen (Ae _ B 1 _) (fun i e=>by cases e;exact .inl (by omega))) zH zI;intro s zP;rcases List.mem_append.1 zP with h|h
   ·exact hs s h
   ·simp at h
    subst h;decide
  ·have d1:(r==1)=false:=by simpa using c1
   by_cases c2:r=2
   ·subst c2
    by_cases hl0:0<ss.length
    ·have dl:decide ((0:Int)<(ss.length:Int))=true:=decide_eq_true (by omega)
     have HX:Hid (ss[0]?=some ss[0]):=Uu hl0;have xE:ss[0]∈ss:=List.getElem_mem hl0;generalize ss[0]=X at *
     have cX:w3.cell? ⟨g,0,none⟩=some (.string X):=by
      have:=Ad.own O3.o;rcases this with h|⟨b',off,e1,_,h3⟩
      ·subst h;simp at hl0
      ·cases e1
       simpa using h3 0 X HX.o
     have xP:g<w3.heap.size:=(O3.o.lt g rfl).2;have yT:Hid _:=hl0;have xT:(0:Int)<(ss.length:Int):=by omega
     have zZ:Below w3.heap.size w3 (w3.alloc (.cells #[.string X] 9)):=Ur;have oA:(w3.alloc (.cells #[.string X] 9)).drew.ownsRow (Q+1) 9 1 (.slice (some ⟨g,0,none⟩) ss.length gc) ss.length (ss.map Value.string):=O3.o.kept (Aj none zZ.drew) (Classical.em _)
     have nA:∀A,(some ⟨w3.heap.size,0,none⟩:Option Addr)=some A->∀i s,[X][i]?=some s->(w3.alloc (.cells #[.string X] 9)).drew.cell? (A.add i)=some (.string s):=by
      intro A e i s hs;injection e with e;subst e;cases i with
      |zero=>simp at hs;subst hs;simp[Addr.add]
      |succ i=>simp at hs
     have xL:(w3.alloc (.cells #[.string X] 9)).cell? ⟨B,1,none⟩=some (.slice (some ⟨g,0,none⟩) ss.length gc):=(zZ.cell (p:=⟨B,1,none⟩) yO).trans x1;clear hl0;go_upto_region 10 with fail
     go_region_law (first
      |(refine BK (w3.alloc (.cells #[.string X] 9)).drew rfl (.tmp 37) (.tmp 42) 25 rfl (Q+1) 9 i0 (.string ⟨#[]⟩) 16 underlying25 hi yF yH yI rfl g ss.length gc ss rfl oA (some ⟨w3.heap.size,0,none⟩) 1 1 [X] rfl rfl (fun e=>by cases e) nA (by unfold maxLen;omega) (by omega) (by simp;omega) ?_;intro g6 c6 w6 yD yP zO xD;have zD:w3.grownBy w6 (some g):=(Aj (some g) zZ.drew).trans yP;have X6:=B3.o.far' zD (by omega);have Y6:=R3.o.1.far' zD (by omega);obtain⟨xJ,yV⟩:=X6 0 _ rfl;obtain⟨xK,yW⟩:=X6 1 _ rfl;obtain⟨y0',q0'⟩:=Y6 0 _ rfl;obtain⟨y1',q1'⟩:=Y6 1 _ rfl))
     all_goals
      have zF:g6≠B:=by
       have:=yO;rcases zO with h|h
       ·omega
       ·simp at h;omega
      have HF:Hid _:=And.intro (R3.o.2.2.andThen zD (fun i e=>by cases e;exact .inl (by omega))) (And.intro (R3.o.2.1.grown zD (by omega)) yD);have xC:=(yD.lt g6 rfl).1;clear yD yP zO X6 Y6 oA nA xL x0 x1 f0 f1 y0 y1 q0 q1 cX;go_wp2;refine bodyPost_ret (v:=.agg #[.string t,.slice (some ⟨g6,0,none⟩) (ss.length+1) c6]) (by simp[results,results35,go_sem, *]) rfl ?_
      have zG:ss.length+1=(ss++[X]).length:=by simp
      rw[zG];refine CX.fin (by omega) (by simp;omega) ?_ (World.ownsRow.kept (by rw[←zG];exact HF.o.2.2) (Ae _ B 1 _) (.inr (by simp[Value.ownBlock];omega))) (HF.o.2.1.grown (Ae _ B 1 _) (by omega)) (by omega) (by omega) (HF.o.1.andThen (Ae _ B 1 _) (fun i e=>by cases e;exact .inl (by omega))) zH zI;intro s zP;rcases List.mem_append.1 zP with h|h
      ·exact hs s h
      ·simp at h
       subst h;exact hs _ xE
    ·have dl:decide ((0:Int)<(ss.length:Int))=false:=decide_eq_false (by omega)
     have yT:Hid _:=hl0;clear hl0;go_wp2;refine bodyPost_ret (v:=.agg #[.string t,.slice (some ⟨g,0,none⟩) ss.length gc]) (by simp[results,results35,go_sem, *]) rfl ?_;exact CX.fin (t':=t) (L:=ss) (TX:=2001) (RF:=31) (by omega) (by omega) hs O3.o R3.o.2.1 (by omega) (by omega) R3.o.2.2 zH zI
   ·have d2:(r==2)=false:=by simpa using c2
    by_cases c3:r=3
    ·subst c3
     have yX:Below w3.heap.size w3 (w3.alloc (.cells #[] 9)):=Ur;obtain⟨W4,zM⟩:∃W4,W4=(w3.setCell ⟨B,1,none⟩ (.slice (some ⟨w3.heap.size,0,none⟩) 0 0)).alloc (.cells #[] 9):=⟨_,rfl⟩;have zK:w3.grownBy W4 (some B):=by
      rw[zM];exact(Ae _ B 1 _).trans (World.grownBy_alloc _ _ _)
     have X4:Aa W4 B [.string t,.slice (some ⟨w3.heap.size,0,none⟩) 0 0]:=by
      rw[zM];exact Aa.below (B3.o.set 1 _) (Ur)
     have o4:W4.ownsRow (Q+1) 9 1 (.slice (some ⟨w3.heap.size,0,none⟩) 0 0) 0 (([]:List ByteArray).map Value.string):=by
      have:=World.ownsRow_lit (base:=Q+1) (e:=9) (size:=1) (w3.setCell ⟨B,1,none⟩ (.slice (some ⟨w3.heap.size,0,none⟩) 0 0)) #[] 0 (by simp;omega) (by unfold maxLen;omega) rfl;rw[World.size_setCell] at this;rw[zM];exact this
     have E4:Hid (Aa W4 Q [.string ⟨#[]⟩,.slice none 0 0]/\AR W4 b a n c (p+1)/\w.grownBy W4 (some b)):=⟨R3.o.1.far' zK (by omega),R3.o.2.1.grown zK (by omega),R3.o.2.2.andThen zK (fun i e=>by cases e;exact .inl (by omega))⟩;have yN:Hid _:=X4;have yJ:Hid (W4.ownsRow (Q+1) 9 1 (.slice (some ⟨w3.heap.size,0,none⟩) 0 0) 0 (([]:List ByteArray).map Value.string)):=o4;have yM:Hid _:=zM
     have xG:=zK.size;clear zM zK X4 o4 yX;go_upto_region 13 with fail;rw[←yM.o];clear yM x0 x1 f0 f1 y0 y1 q0 q1;go_wp2_with fail;refine(Bi b a n c (p+1) 2 W4 E4.o.2.1 (by omega) (by omega) (by omega) (by omega)).mono ?_;rintro e w5 ⟨r',rfl,xH,xI,s5,g5⟩;obtain⟨m,rfl⟩:∃m:Nat,r'=m:=⟨r'.toNat,by omega⟩
     have X5:Hid (Aa w5 B [.string t,.slice (some ⟨w3.heap.size,0,none⟩) 0 0]):=Aa.far yN.o g5 (by omega);have E5:Hid (Aa w5 Q [.string ⟨#[]⟩,.slice none 0 0]/\AR w5 b a n c (p+1+1)/\w.grownBy w5 (some b)):=⟨E4.o.1.far g5 (by omega),s5,E4.o.2.2.trans g5⟩
     have O5:Hid (w5.ownsRow (Q+1) 9 1 (.slice (some ⟨w3.heap.size,0,none⟩) 0 0) 0 (([]:List ByteArray).map Value.string)):=yJ.o.kept g5 (.inr (by simp[Value.ownBlock];omega));clear s5 g5 yN E4 yJ;go_wp2
     go_loopw [7] (fun i wr=>∃(k gk ck:Nat) (L:List ByteArray),i=.int .i64 k/\k<=30+m/\L.length=k/\B≠gk/\Hid (Aa wr B [.string t,.slice (some ⟨gk,0,none⟩) L.length ck])/\Hid (∀s∈L,s.size<=8)/\Hid (wr.ownsRow (Q+1) 9 1 (.slice (some ⟨gk,0,none⟩) L.length ck) L.length (L.map Value.string))/\Hid (Aa wr Q [.string ⟨#[]⟩,.slice none 0 0]/\AR wr b a n c (p+1+1)/\w.grownBy wr (some b))) (fun i _=>30+m -(intOf i).toNat)
     case atStart=>exact⟨0,w3.heap.size,0,[],rfl,by omega,rfl,by omega,X5.o,(fun s hs=>by cases hs),O5.o,E5.o⟩
     case round=>
      obtain⟨k,gk,ck,L,rfl,hk,zR,yY,X,HS,O,E⟩:=hrel;have xN:B<wr.heap.size:=X.o.lt;obtain⟨x0,f0⟩:=X.o 0 _ rfl;obtain⟨x1,f1⟩:=X.o 1 _ rfl;have xS:=O.o.lt gk rfl;by_cases hlt:k<30+m
      ·have dk:decide ((k:Int)<30+(m:Int))=true:=decide_eq_true (by omega)
       have xV:IntKind.u8.wrap (33+(k:Int))=33+(k:Int):=Jv (by omega) (by omega);have yZ:=run_convert_bytes_arg (P:=prog) (wr.alloc (.cells #[.int .u8 (33+(k:Int))] 5)) 22 5 underlying22 underlying5 wr.heap.size 0 1 1 [33+(k:Int)] rfl (fun i hi=>by
        obtain rfl:i=0:=by omega
        simp) 9 underlying9
       have yR:=Dq [33+(k:Int)];generalize strOfNums [33+(k:Int)]=T at *
       have zX:Below wr.heap.size wr (wr.alloc (.cells #[.int .u8 (33+(k:Int))] 5)):=Ur;have zY:Below wr.heap.size wr ((wr.alloc (.cells #[.int .u8 (33+(k:Int))] 5)).alloc (.cells #[.string T] 9)):=zX.alloc zX.size _;have zJ:Hid _:=zR;clear zR;go_wp2_with (first
        |(at_builtin;refine wpList_append_own_at _ rfl _ _ 25 rfl (Q+1) 9 i0 (.string ⟨#[]⟩) 1 16 underlying25 hi yF yH yI rfl (by decide) _ L.length (L.map Value.string) rfl ?d0 ⟨wr.heap.size+1,0,none⟩ 1 1 [.string T] rfl rfl ?d1 ?d2 ?d3 ?d4 ?d5 ?_))
       case d0=>exact O.o.kept (Aj none zY) (Classical.em _)
       case d1=>
        intro j u hu;cases j with
        |zero=>simp at hu;subst hu;simp[Addr.add]
        |succ j=>simp at hu
       case d2=>intro u hu;simp at hu;subst hu;rfl
       case d3=>have:=zJ.o;unfold maxLen;omega
       case d4=>have:=zJ.o;omega
       case d5=>simp;omega
       intro v' w6 zA zB zC zN;obtain⟨g6,c6,yE⟩:∃g6 c6,v'=.slice (some ⟨g6,0,none⟩) (L.length+1) c6:=by
        rcases Joins.ownsRow_forms zA with⟨e1,_⟩|hf
        ·exact(zC e1).elim
        ·exact hf
       subst yE;have zD:wr.grownBy w6 (some gk):=(Aj (some gk) zY).trans (by simpa [Value.ownBlock] using zB);have zF:B≠g6:=by
        rcases zN with h|h<;>simp[Value.ownBlock] at h<;>omega
       have X6:=X.o.far' zD (fun e=>yY e.symm);obtain⟨xJ,yV⟩:=X6 0 _ rfl;obtain⟨xK,yW⟩:=X6 1 _ rfl;have xC:=(zA.lt g6 rfl).1;have HN:Hid (w6.ownsRow (Q+1) 9 1 (.slice (some ⟨g6,0,none⟩) (L++[T]).length c6) (L++[T]).length ((L++[T]).map Value.string)):=by
        have:(L++[T]).length=L.length+1:=by simp
        rw[this,List.map_append];exact zA
       have HE:Hid (Aa w6 Q [.string ⟨#[]⟩,.slice none 0 0]/\AR w6 b a n c (p+1+1)/\w.grownBy w6 (some b)):=⟨E.o.1.far' zD (by omega),E.o.2.1.grown zD (by omega),E.o.2.2.andThen zD (fun i e=>by cases e;exact .inl (by omega))⟩;have HT:Hid (∀s∈L++[T],s.size<=8):=by
        intro s zP;rcases List.mem_append.1 zP with h|h
        ·exact HS.o s h
        ·simp at h
         subst h;simp at yR;omega
       have yU:Hid (Aa w6 B [.string t,.slice (some ⟨gk,0,none⟩) L.length ck]):=X6;clear zA zB zC zN X6 yZ yR zX zY zD x0 x1 f0 f1;go_wp2;have zG:(L++[T]).length=L.length+1:=by simp
       refine⟨⟨k+1,g6,c6,L++[T],by go_num,by omega,by rw[zG,zJ.o],zF,?_,HT,?_,?_⟩,by simp[intOf];omega⟩
       ·rw[zG]
        exact yU.o.set 1 _
       ·exact HN.o.kept (Ae _ B 1 _) (.inr (by simp[Value.ownBlock];omega))
       ·exact⟨HE.o.1.far' (Ae _ B 1 _) (by omega),HE.o.2.1.grown (Ae _ B 1 _) (by omega),HE.o.2.2.andThen (Ae _ B 1 _) (fun i e=>by cases e;exact .inl (by omega))⟩
      ·obtain rfl:k=30+m:=by omega
       have dk:decide (((30+m:Nat):Int)<30+(m:Int))=false:=decide_eq_false (by omega);obtain⟨y0,q0⟩:=E.o.1 0 _ rfl;obtain⟨y1,q1⟩:=E.o.1 1 _ rfl;have zJ:Hid _:=zR;clear zR;go_wp2;refine bodyPost_ret (v:=.agg #[.string t,.slice (some ⟨gk,0,none⟩) L.length ck]) (by simp[results,results35,go_sem, *]) rfl ?_
       exact CX.fin (t':=t) (L:=L) (TX:=2001) (RF:=31) (by omega) (by have:=zJ.o;omega) HS.o O.o E.o.2.1 (by omega) (by omega) E.o.2.2 zH zI
    ·have d3:(r==3)=false:=by simpa using c3
     go_wp2;refine bodyPost_ret (v:=.agg #[.string (t++⟨#[122]⟩),.slice (some ⟨g,0,none⟩) ss.length gc]) (by simp[results,results35,go_sem, *]) rfl ?_
     refine CX.fin (by rw[ByteArray.size_append];show t.size+1<=2001;omega) (by omega) hs (O3.o.kept (Ae _ B 0 _) (.inr (by simp[Value.ownBlock];omega))) (R3.o.2.1.grown (Ae _ B 0 _) (by omega)) (by omega) (by omega) (R3.o.2.2.andThen (Ae _ B 0 _) (fun i e=>by cases e;exact .inl (by omega))) zH zI
def MJ (t:ByteArray) (ss:List ByteArray):Prop:=t.size<=2001/\ss.length<=31/\∀s∈ss,s.size<=8
structure Ke (w wx:World) (b B:Nat) (a:Option Addr) (n c:Nat) (t:ByteArray) (ra:Option Addr) (rc:Nat) (ss:List ByteArray) (p:Int):Prop where
 cB:Aa wx B [.string t,.slice ra ss.length rc]
 bd:MJ t ss
 own:wx.ownsRow (w.heap.size+1) 9 1 (.slice ra ss.length rc) ss.length (ss.map Value.string)
 far:∀k,(Value.slice ra ss.length rc).ownBlock=some k->k≠b/\k≠B
 rd:AR wx b a n c p
 res:Aa wx w.heap.size [.string ⟨#[]⟩,.slice none 0 0]
 bel:Below w.heap.size w wx
theorem Ke.pick {w wx wy:World} {b B:Nat} {a:Option Addr} {n c:Nat} {t:ByteArray} {ra:Option Addr} {rc:Nat} {ss:List ByteArray} {p p':Int} (h:Ke w wx b B a n c t ra rc ss p) (hb:w.heap.size<b) (hB:b<B) (hr:AR wy b a n c p') (hg:wx.grownBy wy (some b)):Ke w wy b B a n c t ra rc ss p':=
 ⟨h.cB.far hg hB,h.bd,h.own.kept hg (by
  cases hv:(Value.slice ra ss.length rc).ownBlock with
  |none=>exact .inl rfl
  |some k=>exact .inr (fun e=>(h.far k hv).1 (Option.some.inj e))),h.far,hr,h.res.far' hg (by omega),h.bel.grown hg h.bel.size (fun k e=>by cases e;omega)⟩
structure Mt (w w':World) (e:Ending):Prop where
 ex:∃(t:ByteArray) (ra:Option Addr) (rc:Nat) (ss:List ByteArray) (wd:Int),e=.returned (.tuple #[.agg #[.string t,.slice ra ss.length rc],.int .i64 wd])/\MJ t ss/\0<=wd/\wd<=9/\w'.ownsRow w.heap.size 9 1 (.slice ra ss.length rc) ss.length (ss.map Value.string)
 bel:Below w.heap.size w w'
theorem GZ (a:Option Addr) (n c:Nat) (w:World) (hn:n<=maxLen) (hb:n=0∨∃q off,a=some ⟨q,off,none⟩/\q<w.heap.size/\∀j,j<n->∃x:Int,w.cell? ⟨q,off+j,none⟩=some (.int .u8 x)/\0<=x/\x<256) (hc:n<=c):
 Calls prog 13 #[.slice a n c] w fun e w'=>Mt w w' e:=by
 obtain⟨W0,zH⟩:∃W0,W0=w.alloc (.cells #[.string ⟨#[]⟩,.slice none 0 0] 40):=⟨_,rfl⟩;have zG:Below w.heap.size w W0:=by rw[zH];exact Ur
 have T0:Aa W0 w.heap.size [.string ⟨#[]⟩,.slice none 0 0]:=by rw[zH];exact Aa.new w _ _
 have zP:n=0∨∃q off,a=some ⟨q,off,none⟩/\q<W0.heap.size/\∀j,j<n->∃x:Int,W0.cell? ⟨q,off+j,none⟩=some (.int .u8 x)/\0<=x/\x<256:=by
  rcases hb with h|⟨q,off,ha,hq,hx⟩
  ·exact .inl h
  ·refine .inr ⟨q,off,ha,Uy hq zG.size,fun j hj=> ?_⟩
   obtain⟨x,h1,h2⟩:=hx j hj;exact⟨x,(zG.cell (p:=⟨q,off+j,none⟩) hq).trans h1,h2⟩
 have yF:w.heap.size<W0.heap.size:=T0.lt;have zM:Hid _:=zH;have HC:Hid _:=And.intro T0 zG;have HB:Hid _:=zP;clear zH T0 zG zP hb;go_enter func13,ntmps13;go_upto_region 1 with fail;rw[←zM.o];clear zM;go_wp2_with fail;refine(IZ a n c W0 hn HB.o hc).mono ?_;rintro e w1 ⟨n',c',rfl,s1,zK⟩;have R1:=HC.o.1.below zK;have B1:=HC.o.2.trans (zK.mono HC.o.2.size);obtain⟨b,zQ⟩:∃b,b=W0.heap.size:=⟨_,rfl⟩
 rw[←zQ] at s1 ⊢;have zL:w.heap.size<b:=by omega
 have zT:=s1.lt;clear zQ HB HC zK;go_wp2_with fail;refine(KE b a n' c' 0 w1 s1 (by omega) (by omega)).mono ?_;rintro e w2 ⟨wd,rfl,⟨zZ,yA⟩,s2,g2⟩;have R2:=R1.far' g2 (by omega);have B2:Below w.heap.size w w2:=B1.grown g2 B1.size (fun k e=>by cases e;omega);clear s1 g2 R1 B1;go_wp2_with fail;refine(KF b a n' c' (0+1) wd w2 s2 (by omega) (by omega) zZ yA).mono ?_
 rintro e w3 ⟨⟨t,ra,rc,ss,rfl,ht,hl,hs,ho⟩,⟨p3,s3,l3,u3⟩,g3⟩;obtain⟨W4,zI⟩:∃W4,W4=w3.alloc (.cells #[.string t,.slice ra ss.length rc] 40):=⟨_,rfl⟩;have zE:Below w3.heap.size w3 W4:=by rw[zI];exact Ur
 have yB:=g3.size;have yG:=R2.lt;have F4:Hid (Ke w W4 b w3.heap.size a n' c' t ra rc ss p3):=by
  refine⟨by rw[zI];exact Aa.new w3 _ _,⟨by omega,by omega,hs⟩,(ho.kept (Aj none zE) (Classical.em _)).mono (by omega),fun k hk=> ?_,s3.below zE,(R2.far' g3 (by omega)).below zE,?_⟩
  ·have:=ho.lt k hk
   have:=s2.lt;omega
  ·exact(B2.grown g3 B2.size (fun k e=>by cases e;omega)).trans (zE.mono (by have:=B2.size;omega))
 obtain⟨B,hB⟩:∃B,B=w3.heap.size:=⟨_,rfl⟩;rw[←hB] at F4;have zJ:b<B:=by have:=s2.lt;omega
 have zN:Hid _:=zI;have HB:Hid _:=hB;have zF:Hid _:=And.intro ht (And.intro hl hs);clear zI hB zE ho s2 s3 g3 R2 B2 ht hl hs;go_upto_region 4 with fail;rw[←zN.o,←HB.o];clear zN HB;go_wp2_with fail;refine(Bi b a n' c' p3 4 W4 F4.o.rd (by omega) (by omega) (by omega) (by omega)).mono ?_;rintro e w5 ⟨r,rfl,r0,r1,s5,g5⟩;have F5:Hid (Ke w w5 b B a n' c' t ra rc ss (p3+1)):=F4.o.pick zL zJ s5 g5
 clear s5 g5 F4
 go_upto_if 16 with fail
 go_cut [] (fun wx=>∃(t':ByteArray) (zA:Option Addr) (zB:Nat) (zC:List ByteArray) (p':Int),0<=p'/\p'<=200/\Hid (Ke w wx b B a n' c' t' zA zB zC p'))
 case first=>
  by_cases c0:r=0
  ·subst c0
   obtain⟨x0,f0⟩:=F5.o.cB 0 _ rfl;obtain⟨x1,f1⟩:=F5.o.cB 1 _ rfl;have HN:Hid _:=LL F5.o.own;have zO:B<w5.heap.size:=F5.o.cB.lt;go_wp2_with fail;refine(Jy b a n' c' (p3+1) t ra rc ss w5 F5.o.rd (by omega) (by omega) HN.o.1 HN.o.2 zF.o.1 zF.o.2.1 zF.o.2.2).mono ?_;rintro e w6 ⟨⟨t',zA,zB,zC,rfl,zY,zW,zX,zS⟩,⟨p6,s6,l6,u6⟩,g6⟩;have X6:=F5.o.cB.far g6 zJ;have R6:=F5.o.res.far' g6 (by omega)
   have B6:Below w.heap.size w w6:=F5.o.bel.grown g6 F5.o.bel.size (fun k e=>by cases e;omega);have yE:=F5.o.res.lt;clear x0 f0 x1 f1;obtain⟨x0,f0⟩:=X6 0 _ rfl;obtain⟨x1,f1⟩:=X6 1 _ rfl;go_wp2_with fail;go_meet;refine⟨t',zA,zB,zC,p6,by omega,by omega,(X6.set 0 _).set 1 _,⟨zY,zW,zX⟩,?_,?_,?_,?_,?_⟩
   ·exact(ownsRow_setCell_below (ownsRow_setCell_below zS (a:=⟨B,0,none⟩) zO _) (a:=⟨B,1,none⟩) zO _).mono (by omega)
   ·intro k hk
    have:=zS.lt k hk;omega
   ·exact(s6.grown (Ae _ B 0 _) (by omega)).grown (Ae _ B 1 _) (by omega)
   ·exact(R6.far' (Ae _ B 0 _) (by omega)).far' (Ae _ B 1 _) (by omega)
   ·exact(B6.setCell (p:=⟨B,0,none⟩) (by simp;omega) _).setCell (p:=⟨B,1,none⟩) (by simp;omega) _
  ·have d0:(r==0)=false:=by simpa using c0
   go_wp2_with fail;go_meet;exact⟨t,ra,rc,ss,p3+1,by omega,by omega,F5.o⟩
 case rest=>
 revert wc;intro w7 hcut;obtain⟨t',zA,zB,zC,p',yC,yD,F7⟩:=hcut;clear F5 zF;go_wp2_with fail;refine(Bi b a n' c' p' 10 w7 F7.o.rd (by omega) (by omega) (by omega) (by omega)).mono ?_;rintro e w8 ⟨r8,rfl,yH,yI,s8,g8⟩;have F8:Hid (Ke w w8 b B a n' c' t' zA zB zC (p'+1)):=F7.o.pick zL zJ s8 g8;clear s8 g8 F7
 go_upto_if 22 with fail
 go_cut [5] (fun v wx=>∃(zD p9:Int),v=.int .i64 zD/\0<=zD/\zD<=9/\Hid (Ke w wx b B a n' c' t' zA zB zC p9))
 case first=>
  by_cases c0:r8=0
  ·subst c0
   go_wp2_with fail;refine(Bi b a n' c' (p'+1) 10 w8 F8.o.rd (by omega) (by omega) (by omega) (by omega)).mono ?_;rintro e w9 ⟨r9,rfl,yJ,yK,s9,g9⟩;have F9:=F8.o.pick zL zJ s9 g9;clear s9 g9;go_wp2_with fail;go_meet;exact⟨r9,_,rfl,by omega,by omega,F9⟩
  ·have d0:(r8==0)=false:=by simpa using c0
   go_wp2_with fail;go_meet;exact⟨wd,_,rfl,by omega,by omega,F8.o⟩
 case rest=>
 revert wc;intro w9 hcut;obtain⟨zD,p9,rfl,zU,zV,F9⟩:=hcut;clear F8;obtain⟨x0,f0⟩:=F9.o.cB 0 _ rfl;obtain⟨x1,f1⟩:=F9.o.cB 1 _ rfl;obtain⟨y0,q0⟩:=F9.o.res 0 _ rfl;obtain⟨y1,q1⟩:=F9.o.res 1 _ rfl;go_wp2;refine bodyPost_ret (v:=.tuple #[.agg #[.string t',.slice zA zC.length zB],.int .i64 zD]) (by simp[results,results13,go_sem, *]) rfl ?_;have zR:w.heap.size<w.heap.size+1:=Nat.lt_succ_self _
 refine⟨⟨t',zA,zB,zC,zD,rfl,F9.o.bd,zU,zV,?_⟩,?_⟩
 ·exact(ownsRow_setCell_below (ownsRow_setCell_below F9.o.own (a:=⟨w.heap.size,0,none⟩) zR _) (a:=⟨w.heap.size,1,none⟩) zR _).mono (by omega)
 ·exact(F9.o.bel.setCell (p:=⟨w.heap.size,0,none⟩) (Us) _).setCell (p:=⟨w.heap.size,1,none⟩) (Us) _
structure Tt (w w':World) (e:Ending) (b:Nat) (a:Option Addr) (n c:Nat) (p:Int) (m:Nat):Prop where
 ex:∃T:ByteArray,e=.returned (.string T)/\T.size<=m+4
 dr:KJ w w' b a n c p 3
def SR:Array Value:= #[.string ⟨#[32]⟩,.string ⟨#[10]⟩,.string ⟨#[0]⟩,.string ⟨#[45]⟩,.string ⟨#[48]⟩,.string ⟨#[120]⟩,.string ⟨#[37,122,122]⟩,.string ⟨#[37,52]⟩]
theorem Qf (k:Nat) (h:k<8):∃X:ByteArray,SR[k]?=some (.string X)/\X.size<=4:=by
 match k,h with
 |0,_=>exact⟨_,rfl,by decide⟩
 |1,_=>exact⟨_,rfl,by decide⟩
 |2,_=>exact⟨_,rfl,by decide⟩
 |3,_=>exact⟨_,rfl,by decide⟩
 |4,_=>exact⟨_,rfl,by decide⟩
 |5,_=>exact⟨_,rfl,by decide⟩
 |6,_=>exact⟨_,rfl,by decide⟩
 |7,_=>exact⟨_,rfl,by decide⟩
theorem Kf (W:World) (k:Nat) (h:k<8):∃X:ByteArray,(W.alloc (.cells #[.string ⟨#[32]⟩,.string ⟨#[10]⟩,.string ⟨#[0]⟩,.string ⟨#[45]⟩,.string ⟨#[48]⟩,.string ⟨#[120]⟩,.string ⟨#[37,122,122]⟩,.string ⟨#[37,52]⟩] 9)).cell? ⟨W.heap.size,k,none⟩=some (.string X)/\X.size<=4:=by
 obtain⟨X,h1,h2⟩:=Qf k h;exact⟨X,by rw[World.cell?_alloc_at _ _ _ _ rfl];exact h1,h2⟩
theorem Ny (b:Nat) (a:Option Addr) (n c:Nat) (p:Int) (s:ByteArray) (w:World) (h:AR w b a n c p) (hp:0<=p) (zG:p<=800000) (hs:s.size<=9000):
 Calls prog 15 #[.pointer (some ⟨b,0,none⟩),.string s] w fun e w'=>Tt w w' e b a n c p s.size:=by
 have zE:=h.lt;have HS:Hid _:=h;clear h;go_enter func15,ntmps15;go_wp2_with fail;refine(Bi b a n c p ((s.size:Int)+1) w HS.o hp (by omega) (by omega) (by omega)).mono ?_;rintro e w1 ⟨i',rfl,i0,i1,s1,g1⟩;obtain⟨i,rfl⟩:∃i:Nat,i'=i:=⟨i'.toNat,by omega⟩;have H1:Hid _:=And.intro s1 g1;clear s1 g1 HS;go_wp2_with fail
 refine(Bi b a n c (p+1) 4 w1 H1.o.1 (by omega) (by omega) (by omega) (by omega)).mono ?_;rintro e w2 ⟨r,rfl,r0,r1,s2,g2⟩;have H2:Hid (AR w2 b a n c (p+1+1)/\w.grownBy w2 (some b)):=⟨s2,H1.o.2.trans g2⟩;clear s2 g2 H1;have hi:i<=s.size:=by omega
 by_cases c0:r=0
 ·subst c0
  go_wp2;go_ret;exact⟨⟨_,rfl,by simp;omega⟩,⟨_,H2.o.1,by omega,by omega⟩,H2.o.2⟩
 ·have d0:(r==0)=false:=by simpa using c0
  by_cases c1:r=1
  ·subst c1
   have zA:Below w2.heap.size w2 (w2.alloc (.cells #[.string ⟨#[32]⟩,.string ⟨#[10]⟩,.string ⟨#[0]⟩,.string ⟨#[45]⟩,.string ⟨#[48]⟩,.string ⟨#[120]⟩,.string ⟨#[37,122,122]⟩,.string ⟨#[37,52]⟩] 9)):=Ur;have sD:Hid _:=(H2.o.1.below (Below.refl w2.heap.size w2).drew);have sA:Hid _:=(H2.o.1.below zA.drew);go_upto_region 6 with fail;go_region_with (first
    |(go_at_call 14;refine(Bi b a n c (p+1+1) 8 w2.drew sD.o (by omega) (by omega) (by omega) (by omega)).mono ?_;rintro e w3 ⟨k',rfl,k0,k1,s3,g3⟩;obtain⟨k,rfl⟩:∃k:Nat,k'=k:=⟨k'.toNat,by omega⟩;obtain⟨X,hX,hXs⟩:=Kf w3 k (by omega);have G3:Hid (AR w3 b a n c (p+1+1+1)/\w.grownBy w3 (some b)):=⟨s3,(H2.o.2.trans (Aj (some b) (Below.refl w2.heap.size w2).drew)).trans g3⟩)
    |(go_at_call 14;refine(Bi b a n c (p+1+1) 8 _ sA.o (by omega) (by omega) (by omega) (by omega)).mono ?_;rintro e w3 ⟨k',rfl,k0,k1,s3,g3⟩;obtain⟨k,rfl⟩:∃k:Nat,k'=k:=⟨k'.toNat,by omega⟩;obtain⟨X,hX',hXs⟩:=Kf w2 k (by omega);have hX:=(g3.cell_far ⟨w2.heap.size,k,none⟩ (by simp) (Fx H2.o.1.lt)).trans hX';have G3:Hid (AR w3 b a n c (p+1+1+1)/\w.grownBy w3 (some b)):=⟨s3,(H2.o.2.trans (Aj (some b) zA.drew)).trans g3⟩))
   all_goals clear hX
   all_goals go_wp2
   all_goals go_ret
   all_goals
    refine⟨⟨_,rfl,by simp[ByteArray.size_append];omega⟩,⟨p+1+1+1,?_,by omega,by omega⟩,?_⟩
    ·first|exact G3.o.1|exact G3.o.1.below (Ur)
    ·first|exact G3.o.2|exact G3.o.2.trans (World.grownBy_alloc _ _ _)
  ·have d1:(r==1)=false:=by simpa using c1
   by_cases hlt:i<s.size
   ·have dl:decide ((i:Int)<(s.size:Int))=true:=decide_eq_true (by omega)
    by_cases c2:r=2
    ·subst c2
     go_upto_region 9 with fail;go_quiet (fail);go_wp2;go_ret;exact⟨⟨_,rfl,by simp[ByteArray.size_append];omega⟩,⟨_,H2.o.1.drewN _,by omega,by omega⟩,Hp H2.o.2 _⟩
    ·have d2:(r==2)=false:=by simpa using c2
     have sD:Hid _:=(H2.o.1.below (Below.refl w2.heap.size w2).drew);have zJ:IntKind.i64.wrap ((i:Int)+1)=(i:Int)+1:=Ch (by omega) (by omega);have zF:(i:Int)+1<=(s.size:Int):=by omega
     have zC:(0:Int)<=(i:Int)+1:=by omega
     have zD:((i:Int)+1).toNat=i+1:=by omega
     go_upto_region 11 with fail;go_region_with (first
      |(go_at_call 14;refine(Bi b a n c (p+1+1) 256 w2.drew sD.o (by omega) (by omega) (by omega) (by omega)).mono ?_;rintro e w3 ⟨k',rfl,k0,k1,s3,g3⟩;have zI:IntKind.u8.wrap k'=k':=Jv k0 k1;have zB:=run_convert_bytes_arg (P:=prog) (w3.alloc (.cells #[.int .u8 k'] 5)) 22 5 underlying22 underlying5 w3.heap.size 0 1 1 [k'] rfl (fun i hi=>by obtain rfl:i=0:=(by omega);simp) 9 underlying9;have zH:=Dq [k'];have G3:Hid (AR w3 b a n c (p+1+1+1)/\w.grownBy w3 (some b)):=⟨s3,(H2.o.2.trans (Aj (some b) (Below.refl w2.heap.size w2).drew)).trans g3⟩))
     all_goals clear zB
     all_goals go_wp2
     all_goals go_ret
     all_goals
      refine⟨⟨_,rfl,by simp[ByteArray.size_append,Dq];omega⟩,⟨p+1+1+1,?_,by omega,by omega⟩,?_⟩
      ·first|exact G3.o.1|exact G3.o.1.below (Ur)
      ·first|exact G3.o.2|exact G3.o.2.trans (World.grownBy_alloc _ _ _)
   ·have dl:decide ((i:Int)<(s.size:Int))=false:=decide_eq_false (by omega)
    by_cases c2:r=2
    ·subst c2
     go_wp2;go_ret;exact⟨⟨_,rfl,by omega⟩,⟨_,H2.o.1,by omega,by omega⟩,H2.o.2⟩
    ·have d2:(r==2)=false:=by simpa using c2
     go_wp2;go_ret;exact⟨⟨_,rfl,by omega⟩,⟨_,H2.o.1,by omega,by omega⟩,H2.o.2⟩
structure Qg (w w':World) (e:Ending) (m:Nat):Prop where
 ex:∃(T:ByteArray) (wd:Int),e=.returned (.tuple #[.string T,.int .i64 wd])/\T.size<=m/\0<=wd/\wd<=9
 bel:Below w.heap.size w w'
theorem EG (t:ByteArray) (ss:List ByteArray) (wd:Int):(Am t ss wd).size<=2300:=by
 unfold Am;split
 ·rename_i h
  have p:=AY h;have h1:(ByteArray.mk (AS t ss).toArray).size=(AS t ss).length:=rfl;have h2:=p.bulk_le;have h3:=p.text;rw[h1];unfold AS;rw[List.length_cons,List.length_append,Cc];have:t.data.toList.length=t.size:=rfl;omega
 ·exact Nat.zero_le _
theorem Ha (a:Option Addr) (n c:Nat) (w:World) (hn:n<=maxLen) (hb:n=0∨∃q off,a=some ⟨q,off,none⟩/\q<w.heap.size/\∀j,j<n->∃x:Int,w.cell? ⟨q,off+j,none⟩=some (.int .u8 x)/\0<=x/\x<256) (hc:n<=c):
 Calls prog 4 #[.slice a n c] w fun e w'=>Qg w w' e 2310:=by
 have HB:Hid _:=hb;clear hb;go_enter func4,ntmps4;go_wp2_with fail;refine(IZ a n c w hn HB.o hc).mono ?_;rintro e w1 ⟨n',c',rfl,s1,zC⟩;have zA:n=0∨∃q off,a=some ⟨q,off,none⟩/\q<w1.heap.size/\∀j,j<n->∃x:Int,w1.cell? ⟨q,off+j,none⟩=some (.int .u8 x)/\0<=x/\x<256:=by
  rcases HB.o with h|⟨q,off,ha,hq,hx⟩
  ·exact .inl h
  ·refine .inr ⟨q,off,ha,Uy hq zC.size,fun j hj=> ?_⟩
   obtain⟨x,h1,h2⟩:=hx j hj;exact⟨x,(zC.cell (p:=⟨q,off+j,none⟩) hq).trans h1,h2⟩
 obtain⟨b,zH⟩:∃b,b=w.heap.size:=⟨_,rfl⟩;rw[←zH] at s1 ⊢;have zM:w.heap.size<=b:=by omega
 have zL:Hid _:=zA;have HL:Hid _:=zC;clear zA HB zC zH;go_wp2_with fail;refine(GZ a n c w1 hn zL.o hc).mono ?_;rintro e w2 ⟨⟨t,ra,rc,ss,wd,rfl,⟨ht,hl,hs⟩,zJ,zK,ho⟩,zF⟩;have zI:=(LL ho).1;obtain⟨W2,zB⟩:∃W2,W2=w2.alloc (.cells #[.string t,.slice ra ss.length rc] 40):=⟨_,rfl⟩;have zE:Below w2.heap.size w2 W2:=by rw[zB];exact Ur
 have X2:Aa W2 w2.heap.size [.string t,.slice ra ss.length rc]:=by rw[zB];exact Aa.new w2 _ _
 have zD:=zF.trans (zE.mono zF.size);have s2:=s1.below zD;have R2:Hid (Ad W2 W2.heap.size ra ss):=zI.below' zE;have B2:Hid (Uq w W2):=HL.o.trans (zD.mono HL.o.size);obtain⟨x0,_⟩:=X2 0 _ rfl;obtain⟨x1,_⟩:=X2 1 _ rfl;have HS:Hid _:=s2;have HW:Hid _:=zB;clear zB zE X2 zD zF ho zI s1 s2 HL;go_upto_region 3 with fail;rw[←HW.o];clear HW;go_wp2_with fail
 refine(JD t ra rc ss wd W2 R2.o (by omega) (by unfold maxLen;omega)).mono ?_;rintro e w3 ⟨rfl,zG⟩;have zN:=EG t ss wd;generalize Am t ss wd=F at *
 have s3:Hid (AR w3 b a n' c' 0):=HS.o.below zG;have B3:Hid (Uq w w3):=B2.o.trans (zG.mono B2.o.size);clear x0 x1 zG HS B2 R2;go_wp2_with fail;refine(Bi b a n' c' 0 2 w3 s3.o (by omega) (by omega) (by omega) (by omega)).mono ?_;rintro e w4 ⟨r,rfl,r0,r1,s4,g4⟩;have B4:Hid (Uq w w4):=B3.o.grown g4 B3.o.size (fun k e=>by cases e;omega);have S4:Hid _:=s4;clear s4 g4;by_cases c0:r=0
 ·subst c0
  go_wp2_with fail;refine(Ny b a n' c' (0+1) F w4 S4.o (by omega) (by omega) (by omega)).mono ?_;rintro e w5 ⟨⟨T,rfl,hT⟩,⟨_,g5⟩⟩;have B5:Hid (Uq w w5):=B4.o.grown g5 B4.o.size (fun k e=>by cases e;omega);clear g5;go_wp2;exact bodyPost_ret (v:=.tuple #[.string T,.int .i64 wd]) (by simp[results,results4,go_sem]) rfl ⟨⟨T,wd,rfl,by omega,zJ,zK⟩,B5.o⟩
 ·have d0:(r==0)=false:=by simpa using c0
  go_wp2;exact bodyPost_ret (v:=.tuple #[.string F,.int .i64 wd]) (by simp[results,results4,go_sem]) rfl ⟨⟨F,wd,rfl,by omega,zJ,zK⟩,B4.o⟩
theorem ED (a b:Option Addr) (c d:Nat) (ss tt:List ByteArray) (w:World) (hr:Ad w w.heap.size a ss) (hq:Ad w w.heap.size b tt) (hl:ss.length<=1048576) (zQ:tt.length<=1048576):
 Calls prog 28 #[.slice a ss.length c,.slice b tt.length d] w fun e w'=>Ao (ss=tt) w w' e:=by
 by_cases hlen:ss.length=tt.length
 ·have zK:((ss.length:Int) !=(tt.length:Int))=false:=by simp;omega
  have zC:Hid _:=hlen;have HX:Hid (∀X,Uq w X->Ad X w.heap.size a ss/\Ad X w.heap.size b tt):=fun X hX=>⟨hr.below hX,hq.below hX⟩;clear hlen hr hq;go_enter func28,ntmps28;go_wp2
  go_loopw [5] (fun i wr=>∃k:Nat,k<=ss.length/\i=.int .i64 k/\Hid (ss.take k=tt.take k/\Uq w wr)) (fun i _=>ss.length -(intOf i).toNat)
  case atStart=>exact⟨0,Nat.zero_le _,rfl,⟨by simp,Below.refl _ _⟩⟩
  case round=>
   obtain⟨k,hk,rfl,HI⟩:=hrel;obtain⟨hr,hq⟩:=HX.o wr HI.o.2;by_cases hlt:k<ss.length
   ·have zA:k<tt.length:=by have:=zC.o;omega
    obtain⟨rb,ro,ha,zN,zE⟩:=hr.at hlt;obtain⟨qb,qo,hb,zM,zD⟩:=hq.at zA;subst ha hb;have c0:=zE k _ (Uu hlt);have d0:=zD k _ (Uu zA);have zS:=Uy zN HI.o.2.size;have zR:=Uy zM HI.o.2.size;have zI:Hid _:=Uv hlt;have zJ:Hid _:=Uv zA;have HN:Hid (∀x y,ss[k]?=some x->tt[k]?=some y->x≠y->ss≠tt):=fun x y h1 h2 hne e=>by
     subst e;rw[h1] at h2;exact hne (Option.some.inj h2)
    have zG:Hid _:=Uu hlt;have zH:Hid _:=Uu zA;have zP:(k:Int)<tt.length:=by omega
    clear zE zD hr hq;generalize ss[k]=x at *
    generalize tt[k]=y at *
    have HB:Hid _:=HI.o.2;by_cases hxy:x=y
    ·subst hxy
     have zF:(x.toList !=x.toList)=false:=by simp
     go_wp2
     go_region
     all_goals go_wp2
     all_goals exact⟨⟨k+1,by omega,by go_num,⟨by rw[zI.o,zJ.o,HI.o.1],HB.o.drew⟩⟩,by simp[intOf];omega⟩
    ·have zF:=Ck hxy
     have zO:(x.toList !=y.toList)=true:=by simp[bne,zF]
     go_wp2
     go_region
     all_goals go_wp2
     all_goals go_ret
     all_goals exact Ao.no (fun h=>HN.o x y zG.o zH.o hxy h) HB.o.drew
   ·obtain rfl:k=ss.length:=by omega
    have zB:=HI.o.1;have HB:Hid _:=HI.o.2;rw[Uw (Us),Uw (by have:=zC.o;omega)] at zB;have HF:Hid _:=zB;clear hr hq zB;go_wp2;go_ret;exact Ao.yes HF.o HB.o
 ·have zK:((ss.length:Int)==(tt.length:Int))=false:=by simp;omega
  have zL:((ss.length:Int) !=(tt.length:Int))=true:=by simp;omega
  go_enter func28,ntmps28;go_wp2;go_ret;exact Ao.no (fun h=>hlen (by rw[h])) (Below.refl _ _)
theorem Nz (t u:ByteArray) (a b:Option Addr) (c d:Nat) (ss tt:List ByteArray) (w:World) (hr:Ad w w.heap.size a ss) (hq:Ad w w.heap.size b tt) (hl:ss.length<=1048576) (zB:tt.length<=1048576):
 Calls prog 47 #[.agg #[.string t,.slice a ss.length c],.agg #[.string u,.slice b tt.length d]] w fun e w'=>Ao (t=u/\ss=tt) w w' e:=by
 obtain⟨W,hW⟩:∃W,W=(w.alloc (.cells #[.string t,.slice a ss.length c] 40)).alloc (.cells #[.string u,.slice b tt.length d] 40):=⟨_,rfl⟩;have bW:=(Ba hW).1;obtain⟨y0,y1⟩:=Aa.c2 (Ba hW).2.2.1 0 1;obtain⟨z0,z1⟩:=Aa.c2 (Ba hW).2.2.2 0 1;have HC:Hid _:=ED a b c d ss tt W (hr.below' bW) (hq.below' bW) hl zB;have HW:Hid _:=hW;have HB:Hid _:=bW;clear hW hr hq bW;by_cases ht:t=u
 ·subst ht
  have zD:(t.toList==t.toList)=true:=by simp
  go_enter func47,ntmps47;go_upto_region 1 with fail;rw[←HW.o];clear HW;go_wp2_with (go_at_call 28;refine Calls.mono HC.o ?_;rintro e w1 ⟨b1,rfl,zC,zA⟩);go_ret;exact⟨b1,by simp,by simpa using zC,HB.o.trans (zA.mono HB.o.size)⟩
 ·have zD:=Ck ht
  go_enter func47,ntmps47;go_upto_region 1 with fail;rw[←HW.o];clear HW;go_wp2;go_ret;exact Ao.no (fun h=>by first|exact h|exact ht h.1) HB.o
theorem Rz (a:Option Addr) (c:Nat) (ss:List ByteArray) (x:ByteArray) (w:World) (hr:Ad w w.heap.size a ss) (hl:ss.length<=1048576) (hx:x∈ss):
 Calls prog 9 #[.slice a ss.length c,.string x] w fun e w'=>e=.returned (.bool true)/\Uq w w':=by
 obtain⟨i,hi⟩:=List.getElem?_of_mem hx;have HX:Hid (Ad w w.heap.size a ss):=hr;clear hr;go_enter func9,ntmps9;go_wp2
 go_loopw [5] (fun j wr=>∃k:Nat,k<=i/\j=.int .i64 k/\wr=w) (fun j _=>ss.length -(intOf j).toNat)
 case atStart=>exact⟨0,Nat.zero_le _,rfl,rfl⟩
 case round=>
  obtain⟨k,hk,rfl,rfl⟩:=hrel;have zD:=(Ut hi).1;have zA:k<ss.length:=by omega
  obtain⟨rb,ro,ha,zF,zB⟩:=HX.o.at zA;subst ha;have c0:=zB k _ (Uu zA);have HG:Hid (ss[k]?=some ss[k]):=Uu zA;clear zB;generalize ss[k]=y at *
  by_cases hxy:y=x
  ·subst hxy
   have zC:(y.toList==y.toList)=true:=by simp
   go_wp2;go_ret;exact⟨rfl,Below.refl _ _⟩
  ·have zC:=Ck hxy
   have zE:k≠i:=fun e=>by
    have h:=HG.o;rw[e,hi] at h;exact hxy (Option.some.inj h).symm
   go_wp2;exact⟨⟨k+1,by omega,by go_num,trivial⟩,by simp[intOf];omega⟩
end Go.Proofs.YtflhhhnlhlaehaaGreatDoor
