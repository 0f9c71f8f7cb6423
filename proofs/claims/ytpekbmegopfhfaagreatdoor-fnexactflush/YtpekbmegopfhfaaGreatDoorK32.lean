import Derived.Test.YtpekbmegopfhfaaGreatDoorK31
set_option maxRecDepth 100000
set_option maxHeartbeats 16000000
namespace Go.Proofs.YtpekbmegopfhfaaGreatDoor
open Go.ChangeShapes Go.WideShapes Go.ChangeAt Go.RowKit _root_.Go.Proofs.Tryz
section
attribute [local go_sem] Oper.semAt_some
theorem OP {V:World} {z B:Nat} {T U:TypeId} {v:Value} (t4:Boxed V (z+1) T (.pointer none)) (t5:Boxed V (z+1+1) U v) (hB:z+1+1<B) (u:Value):Bm B V ((V.setCell (XL (z+1) 0) (.pointer none)).setCell (XL (z+1+1) 0) u)/\Below z V ((V.setCell (XL (z+1) 0) (.pointer none)).setCell (XL (z+1+1) 0) u)/\Boxed ((V.setCell (XL (z+1) 0) (.pointer none)).setCell (XL (z+1+1) 0) u) (z+1) T (.pointer none)/\Boxed ((V.setCell (XL (z+1) 0) (.pointer none)).setCell (XL (z+1+1) 0) u) (z+1+1) U u:=by
 have g1:=grownBy_setCell' V (z+1) (.pointer none);have g2:=grownBy_setCell' (V.setCell (XL (z+1) 0) (.pointer none)) (z+1+1) u;have zA:=t4.set (.pointer none);have zB:Boxed (V.setCell (XL (z+1) 0) (.pointer none)) (z+1+1) U v:=(g1.block _ (Array.getElem?_eq_some_iff.1 t5).1 (fun e=>by have:=Option.some.inj e;omega)).trans t5
 refine⟨(Bm.ofG g1 (fun j e=>by cases e;omega)).trans (Bm.ofG g2 (fun j e=>by cases e;omega)),(Below.setCell (Below.setCell (Below.refl _ _) (show z<=z+1 by omega) _) (show z<=z+1+1 by omega) _),(g2.block _ (Array.getElem?_eq_some_iff.1 zA).1 (fun e=>by have:=Option.some.inj e;omega)).trans zA,zB.set u⟩
theorem Kh (wd:Int) (gf:Nat) (pre lb:Array Value) (xs:List ByteArray) (w:World) (h1:1<=wd) (h8:wd<=8) (hx:xs.length<=100000) (hs:∀s∈xs,s.size<=1048576) (hE:Env w) (eg:∀args w,(callFunc gf args).run prog w=.ok (.enter gf args) w) (yK:∀W,Xz w W->Eu prog gf (fun l=>pre++ #[.func (.yield l) #[] #[]]++lb) xs w.heap.size W):
 Calls prog 45 #[XJ wd,.func (.func gf) pre lb] w fun e w'=>Xz w w'/\((∃n:Nat,Ev wd xs n/\e=.returned (.tuple #[.pointer none,XJ n]))∨(∃r d m O P L base,CV wd r0 xs r/\e=.returned (.tuple #[.pointer (some ⟨d,0,none⟩),XK])/\Dr w' base d m O P L wd r.now r.given r.births r.ks r.ps r.ls/\(w.heap.size<=base/\base+4<=m))):=by
 refine(callsIn_wide (n:=3)).1 ?_;refine callsIn_of_wp_marks func45 rfl trivial ?_ rfl;simp only[ntmps45,List.size_toArray,List.length_cons,List.length_nil,Nat.reduceAdd,Nat.reduceSub,Array.replicate_succ,Array.replicate_zero,List.push_toArray,List.append_toArray,List.nil_append,List.cons_append]
 obtain⟨W0,zI⟩:∃W,W=((w.alloc (.cells #[XJ wd] 3)).alloc (.cells #[.pointer none] 82)).alloc (.cells #[XK] 3):=⟨_,rfl⟩;have b0:=(Bp zI).1;have z0:=(Bp zI).2.1;have HD:Hid _:=ME wd 0 0 0 none none none 0 0 0 [] [] [] W0 ⟨.inl rfl,.inl rfl,.inl rfl⟩ (by simp) (by simp) (by simp) (by simp) h8;have yV:Hid _:=zI
 gi_wp2_with fail
 refine⟨trivial,?_⟩;rw[←yV.o];refine(callsIn_wide.2 HD.o).mono ?_;rintro e w1 ⟨d,m,O,P,L,rfl,zN,_,_,zK⟩;have yN:=b0.trans (zK.mono b0.size);obtain⟨W2,zR⟩:∃W,W=(w1.alloc (.cells #[.pointer (some ⟨d,0,none⟩)] 82)).alloc (.cells #[XK] 3):=⟨_,rfl⟩;have yT:Hid _:=zR;have zC:=(AP zR).1;have zU:Below w.heap.size w W2:=yN.trans (zC.mono yN.size);have z2:=(AP zR).2.1
 have xO:w.heap.size+3<=w1.heap.size:=by have:=zK.size;omega
 have x2:Boxed W2 w.heap.size 3 (XJ wd):=by
  show W2.heap[w.heap.size]?=_;rw[zC.block _ (by omega),zK.block _ (by omega),zI,Below.heap_alloc _ _ _ (by simp;omega),Below.heap_alloc _ _ _ (by simp)];exact heap_alloc_new w _
 have x4:Boxed W2 (w.heap.size+1) 82 (.pointer none):=by
  show W2.heap[w.heap.size+1]?=_;rw[zC.block _ (by omega),zK.block _ (by omega),zI,Below.heap_alloc _ _ _ (by simp)];have:=heap_alloc_new (w.alloc (.cells #[XJ wd] 3)) (.cells #[.pointer none] 82);rw[World.size_alloc] at this;exact this
 have x5:Boxed W2 (w.heap.size+1+1) 3 XK:=by
  show W2.heap[w.heap.size+1+1]?=_;rw[zC.block _ (by omega),zK.block _ (by omega),zI];have:=heap_alloc_new ((w.alloc (.cells #[XJ wd] 3)).alloc (.cells #[.pointer none] 82)) (.cells #[XK] 3);rw[World.size_alloc,World.size_alloc] at this;exact this
 have x6:Boxed W2 w1.heap.size 82 (.pointer (some ⟨d,0,none⟩)):=by
  show W2.heap[w1.heap.size]?=_;rw[zR,Below.heap_alloc _ _ _ (by simp)];exact heap_alloc_new w1 _
 have x7:Boxed W2 (w1.heap.size+1) 3 XK:=by
  show W2.heap[w1.heap.size+1]?=_;rw[zR];have:=heap_alloc_new (w1.alloc (.cells #[.pointer (some ⟨d,0,none⟩)] 82)) (.cells #[XK] 3);rw[World.size_alloc] at this;exact this
 have yO:d<w1.heap.size:=zN.lts d (by simp[vB]);have yM:m<w1.heap.size:=zN.lts m (by simp[vB]);have xI:=zN.bd;have xN:=zN.bm;have xF:Dr W2 w.heap.size d m O P L wd 0 0 0 [] [] []:=(zN.below zC).rebase (by omega);have HE:Hid (∀V,Xz w V->Env V):=fun V hV=>hE.below hV;clear HD yV zI zR zN zK zC yN b0 hE
 gi_wp2_with fail
 rw[←yT.o];clear yT;have zH:∀(b:Nat) (T:TypeId) (v:Value),b<W2.heap.size->BQ W2.heap.size (fun _ V=>Boxed V b T v):=fun b T v hb=>CB (.cells #[v] T) hb;refine Gs (gf:=gf) (pre:=pre) (lb:=lb) rfl eg (xs:=xs) (n0:=w.heap.size) (yK W2 zU) zU.size rfl
  (fun k V=>Xz w V/\Boxed V w.heap.size 3 (XJ wd)/\Boxed V (w.heap.size+1) 82 (.pointer none)/\Boxed V (w.heap.size+1+1) 3 XK/\Boxed V w1.heap.size 82 (.pointer (some ⟨d,0,none⟩))/\Boxed V (w1.heap.size+1) 3 (XJ k)/\∃r O P L,CV wd r0 (xs.take k) r/\Dr V w.heap.size d m O P L wd r.now r.given r.births r.ks r.ps r.ls)
  (fun _ V=>Xz w V/\∃n:Nat,Ev wd xs n/\Boxed V (w.heap.size+1) 82 (.pointer none)/\Boxed V (w.heap.size+1+1) 3 (XJ n))
  ?stI ?stX ⟨zU,x2,x4,x5,x6,x7,r0,O,P,L,rfl,xF⟩
  (fun s=>{tmps:= #[XJ wd,.func (.func gf) pre lb,.pointer (some ⟨w.heap.size,0,none⟩),undef,.pointer (some ⟨w.heap.size+1,0,none⟩),.pointer (some ⟨w.heap.size+1+1,0,none⟩),.pointer (some ⟨w1.heap.size,0,none⟩),.pointer (some ⟨w1.heap.size+1,0,none⟩),.string s,undef,undef,XJ wd,.agg #[XJ wd,XK,XK,XK,XN,XN,XN],.pointer (some ⟨d,0,none⟩),.func (.func gf) pre lb,.string s,undef,undef,undef,undef,undef,undef,undef,undef,undef,undef,undef,undef,undef,undef,undef,undef,undef,undef,undef],defers:=[]}) ?assign ?body ?done ?stop
 case stI=>
  refine fun k V V' row hJ hg hr=> ?_;obtain⟨q1,q2,q3,q4,q5,q6,r,O,P,L,q7,q8⟩:=hJ
  exact⟨Dk w (XB) zU.size k V V' row q1 hg hr,zH _ _ _ (by omega) k V V' row q2 hg hr,zH _ _ _ (by omega) k V V' row q3 hg hr,zH _ _ _ (by omega) k V V' row q4 hg hr,zH _ _ _ (by omega) k V V' row q5 hg hr,zH _ _ _ (by omega) k V V' row q6 hg hr,r,O,P,L,q7,q8.stable (B:=W2.heap.size) (by omega) (by omega) (by omega) hg hr⟩
 case stX=>
  refine fun k V V' row hJ hg hr=> ?_;obtain⟨q1,n,q2,q3,q4⟩:=hJ;exact⟨Dk w (XB) zU.size k V V' row q1 hg hr,n,q2,zH _ _ _ (by omega) k V V' row q3 hg hr,zH _ _ _ (by omega) k V V' row q4 hg hr⟩
 case assign=>
  intro l2 m2 s V K hK
  gi_wp2
  exact hK
 case body=>
  rintro l2 m2 k s V zY ⟨zM,y2,y4,y5,y6,y7,r,O,P,L,zB,CU⟩ yS;have xC:k<xs.length:=(XC zY).1;obtain⟨V1,zO⟩:∃V1,V1=V.setCell (XL (w1.heap.size+1) 0) (XJ ((k:Int)+1)):=⟨_,rfl⟩;have g1:V.grownBy V1 (some (w1.heap.size+1)):=by rw[zO];exact grownBy_setCell' V _ _
  have xQ:V1.heap.size=V.heap.size:=by rw[zO];simp
  have yF:Below w.heap.size w V1:=by rw[zO];exact zM.setCell (p:=⟨w1.heap.size+1,0,none⟩) (by show w.heap.size<=w1.heap.size+1;omega) _
  have u7:Boxed V1 (w1.heap.size+1) 3 (XJ ((k:Int)+1)):=by rw[zO];exact y7.set _
  have ou:∀{b:Nat} {T:TypeId} {v:Value},Boxed V b T v->b≠w1.heap.size+1->Boxed V1 b T v:=fun {b T v} hb hne=>(g1.block b (Array.getElem?_eq_some_iff.1 hb).1 (fun e=>hne (Option.some.inj e))).trans hb;have u2:=ou y2 (by omega);have u4:=ou y4 (by omega);have u5:=ou y5 (by omega);have u6:=ou y6 (by omega)
  have zT:=CU.stable (B:=w1.heap.size) yO yM (by omega) g1 (fun q e=>by cases e;exact⟨by omega,_,y7,by simp[Bg]⟩);have HR:Hid _:=PO s wd V1 (hs s (XG zY)) (HE.o V1 yF);have c7:=y7.cell;have f7:=y7.frozen;have c2:=y2.cell;have xP:¬w.heap.size=w1.heap.size+1:=by omega
  have yX:Hid _:=zO;clear zO
  gi_wp2_with fail
  rw[←yX.o];clear yX;refine⟨trivial,fun h=>by simp[Fence.wide] at h,?_⟩;refine(callsIn_wide.2 HR.o).mono ?_;rintro e V2 ⟨v,rfl,yG,zC⟩;obtain⟨ra,rc,rfl⟩:=Ay yG;obtain⟨V3,yD⟩:∃V3,V3=V2.alloc (.cells #[XJ (AA s wd).k,.string (AA s wd).sum,.string (AA s wd).name,XJ (AA s wd).n,.string (AA s wd).t,.slice ra (AA s wd).ss.length rc] 77):=⟨_,rfl⟩;have zX:=(Aq yD).1
  have zP:Below V1.heap.size V1 V3:=zC.trans (zX.mono zC.size);have zZ:Below w.heap.size w V3:=yF.trans (zP.mono yF.size);have o3:∀{b:Nat} {T:TypeId} {v:Value},Boxed V1 b T v->Boxed V3 b T v:=fun {b T v} hb=>(zP.block b (Array.getElem?_eq_some_iff.1 hb).1).trans hb;have t2:=o3 u2;have t4:=o3 u4;have t5:=o3 u5;have t6:=o3 u6;have t7:=o3 u7;have zA:=zT.below zP;have e3:=(Aq yD).2.2
  have yJ:Bm W2.heap.size V V3:=(Bm.ofG g1 (fun j e=>by cases e;omega)).trans (Bm.below zP);have yP:Below w.heap.size V V3:=(show Below w.heap.size V V1 from⟨g1.os,g1.tape,g1.output,g1.size,fun b hb=>g1.block b (by have:=zM.size;omega) (fun e=>by have:=Option.some.inj e;omega)⟩).trans (zP.mono yF.size);have yL:Hid _:=yD;have xK:w.heap.size+3<=V2.heap.size:=by have h1:=zC.size;have h2:=yS;omega
  have xJ:w1.heap.size+1<V2.heap.size:=by have h1:=zC.size;have h2:=yS;omega
  clear yD;cases hok:(AA s wd).ok with
  |false=>
   have zJ:Ev wd xs (k+1):=⟨k,r,s,rfl,zY,zB,.inl hok⟩;have xD:=t7.cell;have f5:=t5.frozen;have f4:=t4.frozen;have d4:=t4.cell;have d5:=t5.cell;clear c7 c2 f7 e3 HR yG;have HS:Hid _:=OP (B:=W2.heap.size) t4 t5 (by omega) (XJ ((k:Int)+1))
   gi_wp2_with fail
   rw[←yL.o];refine⟨trivial,?_⟩
   gi_wp2_with fail
   gi_region
   all_goals gi_wp2_with fail
   all_goals exact⟨yJ.trans ⟨HS.o.1.size,HS.o.1.same⟩,zZ.trans HS.o.2.1.drew,k+1,zJ,HS.o.2.2.1,HS.o.2.2.2⟩
  |true=>
   have yQ:=(IA hok).1;have yA:Ia wd r.now r.given r.births r.ks r.ps r.ls (AA s wd).k (AA s wd).n (AA s wd).t (AA s wd).ss:=FK.aok (zB.ok (Fy h1 h8)) yQ (by have:=Nh yQ;unfold maxLen;omega);have yI:=Ad yG zX;have zE:=zT.lts;have zV:Du V3 w.heap.size (vB d m O P L) ra (AA s wd).ss:=by
    rcases yI.2 with⟨_,h0⟩|⟨g,cap,yU,hv,xR,hg,_⟩
    ·exact .inl (List.eq_nil_of_length_eq_zero h0)
    ·cases hv
     refine .inr ⟨g,0,rfl,(Array.getElem?_eq_some_iff.1 hg).1,fun hin=>by have:=zE g hin;omega,.inr ⟨by omega,yU,hg⟩,fun i x hx=> ?_⟩;rcases Ae.own yI with h|⟨b',xB,e',_,hc⟩
     ·rw[h] at hx
      simp at hx
     ·cases e'
      exact hc i x hx
   have HA:Hid _:=NR d (vB d m O P L) (AA s wd).k (AA s wd).sum (AA s wd).name (AA s wd).t (AA s wd).n ra (AA s wd).ss.length rc (fun c a b=>Lp wd r.now r.given r.births r.ks r.ps r.ls (AA s wd).k (AA s wd).sum (AA s wd).name (AA s wd).n (AA s wd).t (AA s wd).ss c a b) (fun sm le X=>∃r',Hl wd r.now r.given r.births r.ks r.ps r.ls (AA s wd).k (AA s wd).sum (AA s wd).name (AA s wd).n (AA s wd).t (AA s wd).ss r'/\r'.sm=sm/\r'.le=le/\RK w.heap.size d m wd r' X) V3 zA.lts (fun sm le X X' R yU q1 q2 q3 q4=>by
    obtain⟨r',g1,g2,g3,g4⟩:=q1;have xM:=zP.size;exact⟨r',g1,g2,g3,g4.stays q2 (by omega) (by omega) q4⟩) (fun X hX=>PJ w.heap.size d m O P L wd r.now r.given r.births r.ks r.ps r.ls (AA s wd).k (AA s wd).sum (AA s wd).name (AA s wd).n (AA s wd).t (AA s wd).ss ra rc X (DU.below ⟨zA⟩ hX) yA (zV.move (U:=[]) (Tn.of hX) (by simp) (fun b hb=> .inl hb)))
   have d6:V2.cell? (XL (w1.heap.size) 0)=some (.pointer (some ⟨d,0,none⟩)):=(zC.cell (p:=⟨w1.heap.size,0,none⟩) (by show w1.heap.size<_;omega)).trans u6.cell;have xH:w1.heap.size<V2.heap.size:=by omega
   have xA:Hid (xs.take (k+1)=xs.take k++[s]):=by
    have hq:=XE xC;rw[(XC zY).2] at hq;exact hq
   clear c7 c2 f7 HR yG yI zV yA zE e3
   gi_wp2_with fail
   rw[←yL.o];clear yL;refine⟨trivial,fun h=>by simp[Fence.wide] at h,?_⟩;refine(callsIn_wide.2 HA.o).mono ?_;intro e V4 yZ;obtain⟨c,a',b',yC,rfl,ht⟩|⟨sm,le,rfl,⟨r',hy,_,_,⟨O',P',L',yY⟩⟩,ht⟩:=yZ
   ·have xL:(c !=0)=true:=by have:=yC.code;simp;omega
    have zJ:Ev wd xs (k+1):=⟨k,r,s,rfl,zY,zB,.inr ⟨c,a',b',yC⟩⟩;have zF:=zA.keepsB (B:=w1.heap.size) yO yM ht;have zW:Below w.heap.size V3 V4:=ht.below zZ.size (fun b hin=>by
     have:=zA;unfold vB at hin;simp only[List.mem_cons,List.mem_append,Option.mem_toList] at hin;rcases hin with h|h|h|h|h
     ·rw[h];exact this.bd
     ·rw[h];exact this.bm
     ·exact(Ac this.ord h).1
     ·exact(Ac this.pin h).1
     ·exact(Ac this.lea h).1)
    have s7:Boxed V4 (w1.heap.size+1) 3 (XJ ((k:Int)+1)):=zF.same _ _ (by omega) t7 (by simp[Bg]);have s4:Boxed V4 (w.heap.size+1) 82 (.pointer none):=(ht.block _ (Array.getElem?_eq_some_iff.1 t4).1 (zA.boxNotin t4 (by simp[Bg]) (by omega) (by omega)).1).trans t4
    have s5:Boxed V4 (w.heap.size+1+1) 3 XK:=(ht.block _ (Array.getElem?_eq_some_iff.1 t5).1 (zA.boxNotin t5 (by simp[Bg]) (by omega) (by omega)).1).trans t5;have HS:Hid _:=OP (B:=W2.heap.size) s4 s5 (by omega) (XJ ((k:Int)+1));have xD:=s7.cell;have f5:=s5.frozen;have f4:=s4.frozen;have d4:=s4.cell;have d5:=s5.cell;have K4:Hid _:=And.intro (zF.mono (B':=W2.heap.size) (by omega)) zW
    clear zF zW ht yC d6 HA;have xG:∀X:World,(Instr.field 30 (.agg #[XJ c,XK,XK,XK,XK,XN,XN,XN,XM,XK,.string a',.string b']) 0).run prog X=.ok (XJ c) X:=fun _=>by kernel_rfl
    have yW:(BT c a' b').toArray= #[XJ c,XK,XK,XK,XK,XN,XN,XN,XM,XK,.string a',.string b']:=rfl;rw[yW];clear yW
    gi_wp2_with fail
    gi_region
    all_goals gi_wp2_with fail
    all_goals exact⟨(yJ.trans K4.o.1).trans ⟨HS.o.1.size,HS.o.1.same⟩,(zZ.trans K4.o.2).trans HS.o.2.1.drew,k+1,zJ,HS.o.2.2.1,HS.o.2.2.2⟩
   ·have zF:=zA.keepsB (B:=w1.heap.size) yO yM ht
    have zW:Below w.heap.size V3 V4:=ht.below zZ.size (fun b hin=>by
     have:=zA;unfold vB at hin;simp only[List.mem_cons,List.mem_append,Option.mem_toList] at hin;rcases hin with h|h|h|h|h
     ·rw[h];exact this.bd
     ·rw[h];exact this.bm
     ·exact(Ac this.ord h).1
     ·exact(Ac this.pin h).1
     ·exact(Ac this.lea h).1)
    have s7:Boxed V4 (w1.heap.size+1) 3 (XJ ((k:Int)+1)):=zF.same _ _ (by omega) t7 (by simp[Bg]);have s6:Boxed V4 w1.heap.size 82 (.pointer (some ⟨d,0,none⟩)):=zF.same _ _ (by omega) t6 (by simp[Bg]);have s2:Boxed V4 w.heap.size 3 (XJ wd):=(ht.block _ (Array.getElem?_eq_some_iff.1 t2).1 (zA.boxNotin t2 (by simp[Bg]) (by omega) (by omega)).1).trans t2
    have s4:Boxed V4 (w.heap.size+1) 82 (.pointer none):=(ht.block _ (Array.getElem?_eq_some_iff.1 t4).1 (zA.boxNotin t4 (by simp[Bg]) (by omega) (by omega)).1).trans t4;have s5:Boxed V4 (w.heap.size+1+1) 3 XK:=(ht.block _ (Array.getElem?_eq_some_iff.1 t5).1 (zA.boxNotin t5 (by simp[Bg]) (by omega) (by omega)).1).trans t5;have zG:CV wd r0 (xs.take (k+1)) r':=by rw[xA.o];exact zB.snoc ⟨hok,hy⟩
    have K4:Hid _:=And.intro (zF.mono (B':=W2.heap.size) (by omega)) zW;have HF:Hid _:=And.intro s7 (And.intro s6 (And.intro s2 (And.intro s4 (And.intro s5 (And.intro zG yY)))));clear zF zW ht d6 HA s7 s6 s2 s4 s5 zG yY hy;have xG:∀X:World,(Instr.field 30 (.agg #[XK,XK,XK,XK,XK,XN,XN,XN,.string sm,XJ le,XM,XM]) 0).run prog X=.ok XK X:=fun _=>by kernel_rfl
    gi_wp2_with fail
    exact⟨yJ.trans K4.o.1,⟨zZ.trans K4.o.2,HF.o.2.2.1,HF.o.2.2.2.1,HF.o.2.2.2.2.1,HF.o.2.1,HF.o.1,r',O',P',L',HF.o.2.2.2.2.2.1,HF.o.2.2.2.2.2.2⟩,yP.trans K4.o.2⟩
 case done=>
  rintro D V hD ⟨zM,y2,y4,y5,y6,y7,r,O,P,L,zB,CU⟩ hK;rw[XF (XB)] at zB;have c6:=y6.cell;have f4:=y4.frozen;have d4:=y4.cell;have f5:=y5.frozen;have d5:=y5.cell;have g1:=grownBy_setCell' V (w.heap.size+1) (.pointer (some ⟨d,0,none⟩));have g2:=grownBy_setCell' (V.setCell (XL (w.heap.size+1) 0) (.pointer (some ⟨d,0,none⟩))) (w.heap.size+1+1) XK
  obtain⟨R1,yB⟩:∃R,R=V.setCell (XL (w.heap.size+1) 0) (.pointer (some ⟨d,0,none⟩)):=⟨_,rfl⟩;obtain⟨R2,zS⟩:∃R,R=R1.setCell (XL (w.heap.size+1+1) 0) XK:=⟨_,rfl⟩;rw[←yB] at g1 g2;rw[←zS] at g2;have p4:Boxed R1 (w.heap.size+1) 82 (.pointer (some ⟨d,0,none⟩)):=by rw[yB];exact y4.set _
  have p5:Boxed R1 (w.heap.size+1+1) 3 XK:=(g1.block _ (Array.getElem?_eq_some_iff.1 y5).1 (fun e=>by have:=Option.some.inj e;omega)).trans y5;have q5:Boxed R2 (w.heap.size+1+1) 3 XK:=by rw[zS];exact p5.set _
  have q4:Boxed R2 (w.heap.size+1) 82 (.pointer (some ⟨d,0,none⟩)):=(g2.block _ (Array.getElem?_eq_some_iff.1 p4).1 (fun e=>by have:=Option.some.inj e;omega)).trans p4
  have yE:R2.heap[D]?=some (.deferred (some [])):=(g2.block _ (by have:=g1.size;have:=(Array.getElem?_eq_some_iff.1 hK).1;omega) (fun e=>by have:=Option.some.inj e;omega)).trans ((g1.block _ (Array.getElem?_eq_some_iff.1 hK).1 (fun e=>by have:=Option.some.inj e;omega)).trans hK);have yH:=DU.turn ⟨CU⟩ (Cn g1) (fun b hb=>by
   obtain rfl:b=w.heap.size+1:=by simpa using hb
   exact⟨by omega,CU.boxNotin y4 (by simp[Bg]) (by omega) (by omega)⟩)
  have yR:=DU.turn yH (Cn g2) (fun b hb=>by
   obtain rfl:b=w.heap.size+1+1:=by simpa using hb
   exact⟨by omega,yH.dr.boxNotin p5 (by simp[Bg]) (by omega) (by omega)⟩)
  have xE:=yR.dr.stable (B:=W2.heap.size) (by omega) (by omega) (by omega) (grownBy_putObj' R2 D (.deferred none)) (fun r e=>by cases e;exact⟨hD,_,yE,rfl⟩);have e4:=cell_kept q4.cell (grownBy_putObj' _ D (.deferred none)) (fun r e=>by cases e;exact⟨_,yE,rfl⟩);have e5:=cell_kept q5.cell (grownBy_putObj' _ D (.deferred none)) (fun r e=>by cases e;exact⟨_,yE,rfl⟩)
  have bR:Below w.heap.size w R2:=by rw[zS,yB];exact(zM.setCell (p:=⟨w.heap.size+1,0,none⟩) (by show _<=_+1;omega) _).setCell (p:=⟨w.heap.size+1+1,0,none⟩) (by show _<=_+1+1;omega) _
  have HR:Hid _:=And.intro yB zS;clear g1 g2 yB zS p4 p5 q4 q5 yH yR CU
  gi_wp2_with fail
  rw[←HR.o.1,←HR.o.2];refine⟨by simp,.inl ⟨_,_,rfl,run_takeDeferred yE,?_⟩⟩;refine⟨.tuple #[.pointer (some ⟨d,0,none⟩),XK],by simp[results,results45,go_sem,e4,e5],?_,.inr ⟨r,d,m,O,P,L,w.heap.size,zB,rfl,xE,XB,by omega⟩⟩;exact bR.trans ⟨rfl,rfl,rfl,by simp,fun i hi=>World.putObj_heap_other (by omega)⟩
 case stop=>
  rintro D k V hD ⟨zM,n,yC,y4,y5⟩ hK;have d4:=cell_kept y4.cell (grownBy_putObj' _ D (.deferred none)) (fun r e=>by cases e;exact⟨_,hK,rfl⟩);have d5:=cell_kept y5.cell (grownBy_putObj' _ D (.deferred none)) (fun r e=>by cases e;exact⟨_,hK,rfl⟩)
  gi_wp2
  refine⟨by simp,.inl ⟨_,_,rfl,run_takeDeferred hK,?_⟩⟩;refine⟨.tuple #[.pointer none,XJ n],by simp[results,results45,go_sem,d4,d5],?_,.inl ⟨n,yC,rfl⟩⟩;exact zM.trans ⟨rfl,rfl,rfl,by simp,fun i hi=>World.putObj_heap_other (by omega)⟩
end
def WK (wd:Int) (xs:List ByteArray) (w:World) (e:Ending) (w':World):Prop:=
 ∃(x:An) (T P L:Value) (rs:List Value),ON wd xs x/\e=.returned (.agg #[XJ x.code,XJ x.wd,XJ x.now,XJ x.given,XJ x.births,T,P,L,.string x.sm,XJ x.le,.string x.a,.string x.b])/\AY w' w.heap.size T P L rs x.ks x.ps x.ls/\Xz w w'
section
attribute [local go_sem] Oper.semAt_some
theorem Je {B:Nat} (p:Nat->Prop):BQ B (fun k _=>p k):=fun _ _ _ _ h _ _=>h
theorem Bm.of_grownBy {B:Nat} {W W':World} {row:Option Nat} (hg:W.grownBy W' row) (zA:∀j,row=some j->j<B):Bm B W W':=
 ⟨hg.size,fun b _ hb h _=>(hg.block b (Array.getElem?_eq_some_iff.1 h).1 (fun e=>by have:=zA b e.symm;omega)).trans h⟩
theorem FU (a b:Option Addr) (n m c d:Nat) (w:World):
 Calls prog 58 #[.agg #[.slice a n c,.slice b m d]] w fun e w'=>e=.returned (.agg #[.slice a n c,.slice b m d])/\Xz w w':=by
 have hb:Below w.heap.size w ((w.alloc (.cells #[.slice a n c,.slice b m d] 40)).alloc (.cells #[.slice a n c,.slice b m d] 99)):=(XA).alloc (by simp) _;go_enter func58,ntmps58;go_wp2;refine bodyPost_ret (v:=.agg #[.slice a n c,.slice b m d]) (by simp[results,results58,go_sem]) rfl ⟨rfl,?_⟩;exact hb
theorem Se (a b:Option Addr) (n m c d:Nat) (w:World) (hn:n<=1048576) (hm:m<=1048576):
 Calls prog 108 #[.agg #[.slice a n c,.slice b m d]] w fun e w'=>e=.returned (XJ (n+m))/\Xz w w':=by
 have hb:Below w.heap.size w (w.alloc (.cells #[.slice a n c,.slice b m d] 99)):=XA;go_enter func108,ntmps108;go_wp2;go_ret;exact⟨rfl,hb⟩
theorem FJ (a b:Option Addr) (c d:Nat) (ss tt:List ByteArray) (w:World) (hr:Ae w w.heap.size a ss) (hq:Ae w w.heap.size b tt) (hl:ss.length<=1048576) (zW:tt.length<=1048576)
 (hs:∀s∈ss,s.size<=1048576) (zY:∀s∈tt,s.size<=1048576):
 Calls prog 57 #[.agg #[.slice a ss.length c,.slice b tt.length d]] w fun e w'=>e=.returned (.bool (Ci ss tt))/\Xz w w':=by
 refine(callsIn_wide (n:=3)).1 ?_;refine callsIn_of_wp_marks func57 rfl trivial ?_ rfl;simp only[ntmps57,List.size_toArray,List.length_cons,List.length_nil,Nat.reduceAdd,Nat.reduceSub,Array.replicate_succ,Array.replicate_zero,List.push_toArray,List.append_toArray,List.nil_append,List.cons_append]
 gi_wp2_with fail
 refine⟨trivial,?_⟩;have zM:Below w.heap.size w ((w.alloc (.cells #[.slice a ss.length c,.slice b tt.length d] 40)).alloc (.cells #[.bool false] 4)):=(XA).alloc (by simp) _;have zR:Boxed ((w.alloc (.cells #[.slice a ss.length c,.slice b tt.length d] 40)).alloc (.cells #[.bool false] 4)) (w.heap.size+1) 4 (.bool false):=by
  have:=Boxed.new (w.alloc (.cells #[.slice a ss.length c,.slice b tt.length d] 40)) 4 (.bool false);rwa[World.size_alloc] at this
 have zN:((w.alloc (.cells #[.slice a ss.length c,.slice b tt.length d] 40)).alloc (.cells #[.bool false] 4)).heap.size=w.heap.size+2:=by simp
 refine(callsIn_wide.2 (FU a b ss.length tt.length c d _)).mono ?_;rintro e w1 ⟨rfl,zA⟩;have zI:=zM.trans (zA.mono (by simp;omega));have zS:Boxed w1 (w.heap.size+1) 4 (.bool false):=(zA.block _ (by simp)).trans zR;have zU:=zA.size;rw[zN] at zU;clear zA zR zN zM
 gi_wp2_with fail
 refine⟨trivial,?_⟩;have zO:Below w.heap.size w (w1.alloc (.cells #[.slice a ss.length c,.slice b tt.length d] 99)):=zI.alloc zI.size _;have zT:=zS.alloc (.cells #[.slice a ss.length c,.slice b tt.length d] 99);refine(callsIn_wide.2 (Se a b ss.length tt.length c d _ hl zW)).mono ?_;rintro e w2 ⟨rfl,zC⟩;have zB:=zO.trans (zC.mono (by simp;omega))
 have zG:Boxed w2 (w.heap.size+1) 4 (.bool false):=(zC.block _ (by simp;omega)).trans zT;have zX:=zC.size;simp at zX;have yD:w2.cell? (XL (w1.heap.size) 0)=some (.slice a ss.length c):=by rw[zC.cell (p:=⟨w1.heap.size,0,none⟩) (by simp)];simp
 have zZ:w2.cell? (XL (w1.heap.size) 1)=some (.slice b tt.length d):=by rw[zC.cell (p:=⟨w1.heap.size,1,none⟩) (by simp)];simp
 have yC:=zG.cell;have yE:=zG.frozen;clear zC zT zO zS zI;by_cases hlen:ss.length+tt.length<=4000
 ·gi_wp2_with fail
  have zA:w.heap.size+1<w2.heap.size:=zG.lt;refine Gs (gf:=59) (pre:= #[.agg #[.slice a ss.length c,.slice b tt.length d]]) (lb:= #[]) rfl (enters_of func59 (by kernel_rfl) rfl) (xs:=ss++tt) (n0:=w.heap.size)
   (by simpa using Hs a b c d ss tt w.heap.size w2 (hr.below zB) (hq.below zB) zB.size (by unfold maxLen;omega) (by unfold maxLen;omega)) zB.size rfl
   (fun k V=>Xz w V/\Boxed V (w.heap.size+1) 4 (.bool false)/\CY ((ss++tt).take k)=true)
   (fun _ V=>Xz w V/\Boxed V (w.heap.size+1) 4 (.bool false)/\CY (ss++tt)=false)
   ((Dk w (XB) zB.size).and ((CB (.cells #[.bool false] 4) zA).and (Je _)))
   ((Dk w (XB) zB.size).and ((CB (.cells #[.bool false] 4) zA).and (Je _)))
   ⟨zB,zG,by simp[CY]⟩ (fun s=>{tmps:= #[.agg #[.slice a ss.length c,.slice b tt.length d],.pointer (some ⟨w.heap.size,0,none⟩),.pointer (some ⟨w.heap.size+1,0,none⟩),.pointer (some ⟨w1.heap.size,0,none⟩),.string s,
    .agg #[.slice a ss.length c,.slice b tt.length d],.agg #[.slice a ss.length c,.slice b tt.length d],.agg #[.slice a ss.length c,.slice b tt.length d],XJ (ss.length+tt.length),.bool (decide ((4000:Int)<ss.length+tt.length)),
    .agg #[.slice a ss.length c,.slice b tt.length d],.func (.func 59) #[.agg #[.slice a ss.length c,.slice b tt.length d]] #[],.string s,undef,undef,undef],defers:=[]}) ?assign ?body ?done ?stop
  case assign=>
   intro l2 m2 s V K hK
   gi_wp2
   exact hK
  case body=>
   rintro l2 m2 k s V zJ ⟨zF,hx,zE⟩ yB;have hc:=hx.cell;have hf:=hx.frozen;have zV:s.size<=1048576:=by
    rcases List.mem_append.1 (XG zJ) with h|h
    ·exact hs s h
    ·exact zY s h
   by_cases hbig:5000<s.size
   ·gi_wp2
    refine⟨Bm.of_grownBy (grownBy_setCell' V _ _) (fun j e=>by cases e;exact zA),zF.setCell (p:=⟨w.heap.size+1,0,none⟩) (by simp) _,hx.set _,Hq _ k s zJ hbig⟩
   ·gi_wp2
    refine⟨Bm.refl _ _,⟨zF,hx,?_⟩,Below.refl _ _⟩;rw[IB _ k s zJ,zE];simp;omega
  case done=>
   rintro D V hD ⟨zF,hx,zE⟩ hK;have hc:=hx.cell;have hf:=hx.frozen;rw[XF (by omega)] at zE;have yA:D≠w.heap.size+1:=by omega
   have zP:(V.setCell (XL (w.heap.size+1) 0) (.bool true)).heap[D]?=some (.deferred (some [])):=(KeepsOthers.setCell _ _ _).same D _ hK rfl;have zH:=hx.set (.bool true);have zK:=cell_kept zH.cell (grownBy_putObj' _ D (.deferred none)) (fun r e=>by cases e;exact⟨_,zP,rfl⟩)
   gi_wp2
   refine⟨by simp,.inl ⟨_,_,rfl,run_takeDeferred zP,?_⟩⟩;refine⟨.bool true,by simp[results,results57,go_sem,zK],?_,?_⟩
   ·simp only[Ci];rw[show(ss++tt).all (fun s=>decide (s.size<=5000))=true from zE];simp[hlen]
   ·exact(zF.setCell (p:=⟨w.heap.size+1,0,none⟩) (by simp) _).trans ⟨rfl,rfl,rfl,by simp,fun i hi=>World.putObj_heap_other (by omega)⟩
  case stop=>
   rintro D k V hD ⟨zF,hx,zE⟩ hK;have zK:=cell_kept hx.cell (grownBy_putObj' _ D (.deferred none)) (fun r e=>by cases e;exact⟨_,hK,rfl⟩)
   gi_wp2
   refine⟨by simp,.inl ⟨_,_,rfl,run_takeDeferred hK,?_⟩⟩;refine⟨.bool false,by simp[results,results57,go_sem,zK],?_,?_⟩
   ·simp only[Ci];rw[show(ss++tt).all (fun s=>decide (s.size<=5000))=false from zE];simp
   ·exact zF.trans ⟨rfl,rfl,rfl,by simp,fun i hi=>World.putObj_heap_other (by omega)⟩
 ·have zH:=(zG.set (.bool false)).cell
  gi_wp2
  refine⟨.bool false,by simp[results,results57,go_sem,zH],?_,zB.setCell (p:=⟨w.heap.size+1,0,none⟩) (by simp) _⟩;simp[Ci,hlen]
end
theorem Ki {w:World} {b:Nat} {a0 a1 a2 a3 a4 a5 a6 a7 a8 a9 zA zB:Value} (h:Aa w b [a0,a1,a2,a3,a4,a5,a6,a7,a8,a9,zA,zB]):(w.cell? (XL b 0)=some a0/\w.frozen? ⟨b,0,none⟩=false)/\(w.cell? (XL b 1)=some a1/\w.frozen? ⟨b,1,none⟩=false)/\(w.cell? (XL b 2)=some a2/\w.frozen? ⟨b,2,none⟩=false)/\(w.cell? (XL b 3)=some a3/\w.frozen? ⟨b,3,none⟩=false)/\(w.cell? (XL b 4)=some a4/\w.frozen? ⟨b,4,none⟩=false)/\(w.cell? (XL b 5)=some a5/\w.frozen? ⟨b,5,none⟩=false)/\(w.cell? (XL b 6)=some a6/\w.frozen? ⟨b,6,none⟩=false)/\(w.cell? (XL b 7)=some a7/\w.frozen? ⟨b,7,none⟩=false)/\(w.cell? (XL b 8)=some a8/\w.frozen? ⟨b,8,none⟩=false)/\(w.cell? (XL b 9)=some a9/\w.frozen? ⟨b,9,none⟩=false)/\(w.cell? (XL b 10)=some zA/\w.frozen? ⟨b,10,none⟩=false)/\w.cell? (XL b 11)=some zB/\w.frozen? ⟨b,11,none⟩=false:=
 ⟨h 0 _ rfl,h 1 _ rfl,h 2 _ rfl,h 3 _ rfl,h 4 _ rfl,h 5 _ rfl,h 6 _ rfl,h 7 _ rfl,h 8 _ rfl,h 9 _ rfl,h 10 _ rfl,h 11 _ rfl⟩
theorem c6 {w:World} {b:Nat} {a0 a1 a2 a3 a4 a5:Value} (h:Aa w b [a0,a1,a2,a3,a4,a5]):(w.cell? (XL b 0)=some a0/\w.frozen? ⟨b,0,none⟩=false)/\(w.cell? (XL b 1)=some a1/\w.frozen? ⟨b,1,none⟩=false)/\(w.cell? (XL b 2)=some a2/\w.frozen? ⟨b,2,none⟩=false)/\(w.cell? (XL b 3)=some a3/\w.frozen? ⟨b,3,none⟩=false)/\(w.cell? (XL b 4)=some a4/\w.frozen? ⟨b,4,none⟩=false)/\w.cell? (XL b 5)=some a5/\w.frozen? ⟨b,5,none⟩=false:=
 ⟨h 0 _ rfl,h 1 _ rfl,h 2 _ rfl,h 3 _ rfl,h 4 _ rfl,h 5 _ rfl⟩
def Xa (n:Nat) (w:World) (ta pa la:Option Addr) (ks:List Kd) (ps:List Pd) (ls:List Ld):Prop:=∀V w',(∀b∈V,b<n)->Tn V w w'->Bt w' w'.heap.size ta pa la ks ps ls
theorem AY.rdS {w:World} {base:Nat} {ta pa la:Option Addr} {tc pc lc:Nat} {rs:List Value} {ks:List Kd} {ps:List Pd} {ls:List Ld} (h:AY w base (.slice ta ks.length tc) (.slice pa ps.length pc) (.slice la ls.length lc) rs ks ps ls):Xa base w ta pa la ks ps ls:=fun V w' hV ht=>by
 obtain⟨_,_,_,_,_,_,e1,e2,e3,hr⟩:=(h.turn ht hV).rows;cases e1;cases e2;cases e3;exact hr
theorem AY.get {w:World} {base:Nat} {ta pa la:Option Addr} {tc pc lc:Nat} {rs:List Value} {ks:List Kd} {ps:List Pd} {ls:List Ld} (h:AY w base (.slice ta ks.length tc) (.slice pa ps.length pc) (.slice la ls.length lc) rs ks ps ls):Bt w w.heap.size ta pa la ks ps ls:=
 h.rdS [] w (by simp) (Tn.of (Below.refl _ _))
structure WV (x:An):Prop where
 ks:x.ks.length<=600
 refs:∀k∈x.ks,k.refs.length<=30
 ps:x.ps.length<=100
 ls:x.ls.length<=200
end Go.Proofs.YtpekbmegopfhfaaGreatDoor
