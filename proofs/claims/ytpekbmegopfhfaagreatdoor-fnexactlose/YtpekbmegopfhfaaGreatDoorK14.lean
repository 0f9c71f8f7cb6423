import Derived.Test.YtpekbmegopfhfaaGreatDoorK13
set_option maxRecDepth 100000
set_option maxHeartbeats 16000000
namespace Go.Proofs.YtpekbmegopfhfaaGreatDoor
open Go.ChangeShapes Go.WideShapes Go.ChangeAt Go.RowKit _root_.Go.Proofs.Tryz
theorem UN {d m n:Nat} {O P L O':Option Nat} (h:(d::m::(O.toList++(P.toList++L.toList))).Nodup) (zA:∀b∈d::m::(O.toList++(P.toList++L.toList)),b<n) (hL:O'=O∨∃g,O'=some g/\n<=g):(d::m::(O'.toList++(P.toList++L.toList))).Nodup:=by
 rcases hL with rfl|⟨g,rfl,hg⟩
 ·exact h
 ·cases O<;>cases P<;>cases L<;>simp_all<;>grind
theorem DU.newK {w w':World} {base d m:Nat} {O P L:Value} {wd now given births:Int} {ks:List Kd} {ps:List Pd} {ls:List Ld} (h:DU w base d m O P L wd now given births ks ps ls) (ht:Tn (d::m::O.ownBlock.toList) w w') {O':Value} {zB:List Kd} {zA:Int} (zC:Aa w' d [XJ wd,.map (some m),XJ now,XJ given,XJ zA,O',P,L]) (hu:∃n f,n<=1000000+zA.toNat/\Bb w' 139 m n f/\BC w' base (vB d m O' P L) wd zB f) (ho:w'.ownsRow base 139 8 O' zB.length (AM (zB.map (·.sum)))) (hb:O'.ownBlock=O.ownBlock∨∃g,O'.ownBlock=some g/\w.heap.size<=g):DU w' base d m O' P L wd now given zA zB ps ls:=by
 obtain⟨a1,a2,a3,a4⟩:=CR h.dr.ap;refine⟨⟨zC,hu,ho,Ah h.dr.pin (fun g hg=>ht.block g (Ac h.dr.pin hg).2 (fun e=> ?_)),Ah h.dr.lea (fun g hg=>ht.block g (Ac h.dr.lea hg).2 (fun e=> ?_)),h.dr.bd,h.dr.bm,UN h.dr.ap h.dr.lts hb⟩⟩
 ·rcases List.mem_cons.1 e with e|e
  ·exact(a3 g hg).1 e
  ·rcases List.mem_cons.1 e with e|e
   ·exact(a3 g hg).2.1 e
   ·exact(a2 g (by simpa using e)).2.2.1 hg
 ·rcases List.mem_cons.1 e with e|e
  ·exact(a4 g hg).1 e
  ·rcases List.mem_cons.1 e with e|e
   ·exact(a4 g hg).2 e
   ·exact(a2 g (by simpa using e)).2.2.2 hg
theorem KF {ks:List Kd} {x:Kd} {i:Nat} (h:EE (ks.map (·.sum)) x.sum i):(ks.map (·.sum)).take i++[x.sum]++(ks.map (·.sum)).drop i=(Dh ks x).map (·.sum):=by
 rw[PA h];simp[List.map_take,List.map_drop]
theorem BC.snoc {w:World} {base:Nat} {V:List Nat} {wd:Int} {ks:List Kd} {f:Lit->Option Value} (h:BC w base V wd ks f) {x:Kd} {ra:Option Addr} {rc:Nat} (hx:(x.sum.size:Int)=wd) (h8:wd<=8) (hr:Du w base V ra x.refs):BC w base V wd (ks++[x]) (upd f (keyL x.sum) (DK x ra rc)):=by
 intro s hs;by_cases he:keyL s=keyL x.sum
 ·have:s=x.sum:=IF he (by omega) (by omega)
  subst this;exact .inr ⟨x,ra,rc,by simp,rfl,Ds _ _ _,hr⟩
 ·rw[Dl _ _ he]
  have zB:x.sum≠s:=fun e=>he (by rw[e]);rcases h s hs with⟨h1,h2⟩|⟨u,zC,zA,h1,h2,h3,h4⟩
  ·refine .inl ⟨h1,fun⟨u,hu,e⟩=> ?_⟩
   rcases List.mem_append.1 hu with hu|hu
   ·exact h2 ⟨u,hu,e⟩
   ·simp at hu;subst hu;exact zB e
  ·exact .inr ⟨u,zC,zA,by simp[h1],h2,h3,h4⟩
theorem BC.same {w:World} {base:Nat} {V:List Nat} {wd:Int} {ks zA:List Kd} {f:Lit->Option Value} (h:BC w base V wd ks f) (hm:∀u,u∈zA↔u∈ks):BC w base V wd zA f:=by
 intro s hs;rcases h s hs with⟨h1,h2⟩|⟨u,ra,rc,h1,h2⟩
 ·exact .inl ⟨h1,fun⟨k,hk,e⟩=>h2 ⟨k,(hm k).1 hk,e⟩⟩
 ·exact .inr ⟨u,ra,rc,(hm u).2 h1,h2⟩
def OF (w:World) (base:Nat) (V:List Nat) (m:Nat) (wd births:Int) (ks:List Kd):Prop:=∃n f,n<=1000000+births.toNat/\Bb w 139 m n f/\BC w base V wd ks f
theorem OF.turn {w w':World} {base m:Nat} {U V:List Nat} {wd births:Int} {ks:List Kd} (h:OF w base V m wd births ks) (ht:Tn U w w') (hU:∀b∈U,b∈V) (hm:m∉U):OF w' base V m wd births ks:=by
 obtain⟨n,f,h1,h2,h3⟩:=h;exact⟨n,f,h1,Bb.same h2 (ht.block m h2.lt hm),h3.move ht (fun b hb=> .inl (hU b hb)) (fun b hb=> .inl hb)⟩
theorem UO (base d m:Nat) (O P L:Value) (wd now given births:Int) (ks:List Kd) (ps:List Pd) (ls:List Ld) (s text:ByteArray) (refs:List ByteArray) (ra:Option Addr) (rc:Nat) (w:World) (h:DU w base d m O P L wd now given births ks ps ls) (zR:EO wd ks) (yN:(s.size:Int)=wd) (hl:ks.length<600) (xH:0<=births) (yX:births<1000000000) (hr:Du w base (vB d m O P L) ra refs):
 Calls prog 200 #[.pointer (some ⟨d,0,none⟩),.string s,.agg #[.string text,.slice ra refs.length rc]] w fun e w'=>e=.returned (.tuple #[])/\(∃O',DU w' base d m O' P L wd now given (births+1) (Dh ks ⟨s,births+1,text,refs⟩) ps ls/\(O'.ownBlock=O.ownBlock∨∃g,O'.ownBlock=some g/\w.heap.size<=g))/\Tn (d::m::O.ownBlock.toList) w w':=by
 obtain⟨oa,oc,zX⟩:=Ay h.dr.ord;subst zX;obtain⟨W0,zP⟩:∃W,W=w.alloc (.cells #[.string text,.slice ra refs.length rc] 66):=⟨_,rfl⟩;have zT:=(Aq zP).1;have x0:=(Aq zP).2.2;have zG:=h.below zT;obtain⟨X,hX⟩:∃X,X=W0.setCell (XL d 4) (XJ (births+1)):=⟨_,rfl⟩;have yY:d<w.heap.size:=h.dr.box.lt;have tX:Tn [d] W0 X:=by rw[hX];exact DR _ _ _ _
 have zM:Aa X d [XJ wd,.map (some m),XJ now,XJ given,XJ (births+1),.slice oa ks.length oc,P,L]:=by rw[hX];exact zG.dr.box.set 4 _
 have zF:=CR zG.dr.ap;have xX:Aa X w.heap.size [.string text,.slice ra refs.length rc]:=Aa.same x0 (tX.block _ x0.lt (by simp;omega));have oX:X.ownsRow base 139 8 (.slice oa ks.length oc) ks.length (AM (ks.map (·.sum))):=Ah zG.dr.ord (fun g hg=>tX.block g (Ac zG.dr.ord hg).2 (by simp;exact(zF.2.1 g hg).1))
 have uX:OF X base (vB d m (.slice oa ks.length oc) P L) m wd births ks:=OF.turn zG.dr.map tX (by intro b hb;simp at hb;subst hb;simp[vB]) (by simp;exact fun e=>zF.1 e.symm);have rX:Du X base (vB d m (.slice oa ks.length oc) P L) ra refs:=(hr.move (U:=[]) (Tn.of zT) (by simp) (fun b hb=> .inl hb)).move tX (by intro b hb;simp at hb;subst hb;exact .inl (by simp[vB])) (fun b hb=> .inl hb)
 obtain⟨c4,k4⟩:=zG.dr.box 4 _ rfl;obtain⟨c5,_⟩:=zG.dr.box 5 _ rfl;have xE:((ks.length:Int)==600)=false:=by simp;omega
 have xF:(births==1000000000)=false:=by simp;omega
 have yK:Hid _:=zP;have HX:Hid _:=hX;have HD:Hid (DU w base d m (.slice oa ks.length oc) P L wd now given births ks ps ls):=h;have HP:Hid _:=And.intro zM (And.intro xX (And.intro oX (And.intro uX rX)));have HT:Hid (Tn [d] w X):=(Tn.of zT).trans tX;clear zP hX zG h hr x0 tX zM xX oX uX rX zT;go_enter func200,ntmps200;go_upto_region 1 with fail;rw[←yK.o];go_wp2_with fail;rw[←HX.o];clear HX yK
 refine(IG s X).mono ?_;rintro e w1 ⟨rfl,zH⟩;obtain⟨K,hK⟩:∃W,W=w1.alloc (.cells #[.int .u8 (kB s 0),.int .u8 (kB s 1),.int .u8 (kB s 2),.int .u8 (kB s 3),.int .u8 (kB s 4),.int .u8 (kB s 5),.int .u8 (kB s 6),.int .u8 (kB s 7)] 139):=⟨_,rfl⟩;have yH:=(Aq hK).1;have bK:Below X.heap.size X K:=zH.trans (yH.mono zH.size);have kK:Aa K w1.heap.size (Aj s):=by rw[hK];exact Aa.new w1 (Aj s) 139
 obtain⟨zM,xX,oX,uX,rX⟩:=HP.o;have yS:base<=X.heap.size:=XI HD.o.lo HT.o.size;have zS:=zM.below bK;have xK:=xX.below bK;have oK:=Ad oX bK;have rK:Du K base (vB d m (.slice oa ks.length oc) P L) ra refs:=rX.move (U:=[]) (Tn.of bK) (by simp) (fun b hb=> .inl hb);obtain⟨n1,f,yL,yE,hH⟩:=OF.turn uX (U:=[]) (Tn.of bK) (by simp) (by simp);have hM:=yE;have zF:=CR HD.o.dr.ap;have xD:m<K.heap.size:=hM.lt
 obtain⟨w5,zW,zJ,zI⟩:=(hM.keep (Below.refl K.heap.size K).drew hM.lt).put keyed underlying126 (val:=DK ⟨s,births+1,text,refs⟩ ra rc) (by unfold maxLen;omega) (Ee s);have zB:K.grownBy w5 (some m):=CQ zI;have kl:w1.heap.size<K.heap.size:=kK.lt;have xB:m<w.heap.size:=by obtain⟨_,_,_,yW,_⟩:=HD.o.dr.map;exact yW.lt
 have xC:w.heap.size<w1.heap.size:=by have h1:=zH.size;have h2:=xX.lt;omega
 have k5:Aa w5 w1.heap.size (Aj s):=Aa.far' (v:=.int .u8 (kB s 0)) kK zB (by omega);have x5:Aa w5 d _:=Aa.far' zS zB (fun e=>zF.1 e.symm);have t5:Aa w5 w.heap.size [.string text,.slice ra refs.length rc]:=Aa.far' xK zB (by omega)
 have P4:K.drew.cell? (XL d 1)=some (.map (some m))/\K.drew.cell? (XL d 4)=some (XJ (births+1))/\K.drew.cell? (XL (w.heap.size) 0)=some (.string text)/\K.drew.cell? (XL (w.heap.size) 1)=some (.slice ra refs.length rc)/\_:=⟨(zS 1 _ rfl).1,(zS 4 _ rfl).1,(xK 0 _ rfl).1,(xK 1 _ rfl).1,Gf (w:=K.drew) kK⟩
 have P5:w5.cell? (XL d 1)=some (.map (some m))/\w5.cell? (XL d 4)=some (XJ (births+1))/\w5.cell? (XL (w.heap.size) 0)=some (.string text)/\w5.cell? (XL (w.heap.size) 1)=some (.slice ra refs.length rc)/\_:=⟨(x5 1 _ rfl).1,(x5 4 _ rfl).1,(t5 0 _ rfl).1,(t5 1 _ rfl).1,Gf k5⟩
 have o5:w5.ownsRow base 139 8 (.slice oa ks.length oc) ks.length (AM (ks.map (·.sum))):=World.ownsRow.kept oK zB (.inr (fun e=>(zF.2.1 m e).2.1 rfl));have zN:=Vx base d m oa oc P L wd now given (births+1) ks s w5 x5 o5 (by omega) (by have:=zR.w8;omega) (fun x hx=>by have:=zR.sz x hx;omega) zR.sorted;unfold Cc CF at zN zW;unfold DK at zW;have HQ:Hid _:=zN
 have H5:Hid _:=And.intro x5 (And.intro o5 (And.intro k5 (And.intro zJ (And.intro zB (And.intro hH (And.intro rK (And.intro bK yL)))))));have HK:Hid _:=hK;clear zM xX oX uX rX zS xK oK rK yE hM zN hK HP x5 o5 k5 zJ zI zB hH t5 kK bK yH c4 k4 c5;go_upto_region 5 with fail;rw[←HK.o];clear HK
 go_region_held3 (fun X=>X.cell? (XL d 1)=some (.map (some m))/\X.cell? (XL d 4)=some (XJ (births+1))/\X.cell? (XL (w.heap.size) 0)=some (.string text)/\X.cell? (XL (w.heap.size) 1)=some (.slice ra refs.length rc)/\(X.cell? (XL (w1.heap.size) 0)=some (.int .u8 (kB s 0))/\X.cell? (XL (w1.heap.size) 1)=some (.int .u8 (kB s 1))/\X.cell? (XL (w1.heap.size) 2)=some (.int .u8 (kB s 2))/\X.cell? (XL (w1.heap.size) 3)=some (.int .u8 (kB s 3))/\X.cell? (XL (w1.heap.size) 4)=some (.int .u8 (kB s 4))/\X.cell? (XL (w1.heap.size) 5)=some (.int .u8 (kB s 5))/\X.cell? (XL (w1.heap.size) 6)=some (.int .u8 (kB s 6))/\X.cell? (XL (w1.heap.size) 7)=some (.int .u8 (kB s 7))))
  (first|with_reducible exact P4|with_reducible exact P5)
  (fail)
 obtain⟨q0,q1,q2,q3,q4,q5,q6,q7⟩:=Gf H5.o.2.2.1;clear P4 P5 zW;go_wp2_with fail;refine Calls.mono HQ.o ?_;rintro e w6 ⟨i,rfl,yC,zE⟩;have zU:=Aa.below H5.o.1 zE;have yD:=Aa.below (v:=.int .u8 (kB s 0)) H5.o.2.2.1 zE;have zY:w6.ownsRow base 139 8 (.slice oa ks.length oc) (ks.map (·.sum)).length (Ab Aj (ks.map (·.sum))):=by
  rw[List.length_map];exact Ad H5.o.2.1 zE
 have yM:i<=ks.length:=by have:=yC.le;rwa[List.length_map] at this
 obtain⟨A,hA⟩:∃A,A=w6.drew.alloc (.cells (Aj s).toArray 139):=⟨_,rfl⟩;have bA:Below w6.heap.size w6 A:=by rw[hA];exact(Below.refl _ _).drew.alloc (XB) _
 have yB:base<=w6.heap.size:=by have h1:=H5.o.2.2.2.2.1.size;have h2:=zE.size;have h3:=H5.o.2.2.2.2.2.2.2.1.size;omega
 have zC:=LO (.slice oa ks.length oc) i (ks.map (·.sum)) s w6.heap.size A base (Ad zY bA) (by rw[List.length_map];omega) (by rw[List.length_map];exact yM) (XI yB bA.size) (fun e=>Nat.lt_irrefl _ (Ac zY e).2) (by rw[hA];exact heap_alloc_new w6.drew _);rw[List.length_map,hA] at zC;have HI:Hid _:=zC;have zN:Hid _:=yC;have xA:=zU.below bA;have yU:d<w6.heap.size:=zU.lt;obtain⟨y5,_⟩:=zU 5 _ rfl
 obtain⟨r0,r1,r2,r3,r4,r5,r6,r7⟩:=Gf yD;have H6:Hid _:=And.intro zE (And.intro bA xA);have zV:Hid _:=hA;have yA:∀b,(Value.slice oa ks.length oc).ownBlock=some b->b≠d/\b≠m:=fun b hb=>⟨(zF.2.1 b hb).1,(zF.2.1 b hb).2.1⟩;have yR:d<A.heap.size:=xA.lt;clear q0 q1 q2 q3 q4 q5 q6 q7 yC zC HQ zY zU yD;go_upto_region 7 with fail
 have yF:Below w6.heap.size w6 (w6.alloc (.cells #[.int .u8 (kB s 0),.int .u8 (kB s 1),.int .u8 (kB s 2),.int .u8 (kB s 3),.int .u8 (kB s 4),.int .u8 (kB s 5),.int .u8 (kB s 6),.int .u8 (kB s 7)] 139)):=XA;have a5:=(yF.cell (p:=⟨d,5,none⟩) yU).trans y5;clear xA hA yF;unfold Aj CF at HI
 go_region_law (first
  |(go_simp;go_at_call 229;refine Calls.mono HI.o ?_;rintro e w7 ⟨O',rfl,zK,yG,yJ⟩;obtain⟨oa',oc',zX⟩:=Ay zK;subst zX;have zO:A.grownBy w7 (Value.slice oa ks.length oc).ownBlock:=(by rw[zV.o];exact yG);have x7:=Aa.same H6.o.2.2 (zO.block d yR (fun e=>(yA d e.symm).1 rfl));obtain⟨f5,k5⟩:=x7 5 _ rfl))
 all_goals
  have zA:(Value.slice oa' (ks.length+1) oc').ownBlock=(Value.slice oa ks.length oc).ownBlock∨(Value.slice oa' (ks.length+1) oc').ownBlock=some A.heap.size:=by rw[zV.o];exact yJ
  have H7:Hid _:=And.intro x7 (And.intro zO (And.intro zA zK));clear yJ yG zO x7 zK zA HI a5 r0 r1 r2 r3 r4 r5 r6 r7 y5 zV
  have hK:(∃O'',DU (w7.setCell (XL d 5) (.slice oa' (ks.length+1) oc')) base d m O'' P L wd now given (births+1) (Dh ks ⟨s,births+1,text,refs⟩) ps ls/\(O''.ownBlock=(Value.slice oa ks.length oc).ownBlock∨∃g,O''.ownBlock=some g/\w.heap.size<=g))/\Tn (d::m::(Value.slice oa ks.length oc).ownBlock.toList) w (w7.setCell (XL d 5) (.slice oa' (ks.length+1) oc')):=by
   obtain⟨x5,o5,xG,zJ,zI,hH,rK,bK,yL⟩:=H5.o;obtain⟨zE,bA,xA⟩:=H6.o;obtain⟨x7,zO,zA,zK⟩:=H7.o;have t1:Tn (d::m::(Value.slice oa ks.length oc).ownBlock.toList) w X:=HT.o.mono (by simp)
   have t2:Tn (d::(Value.slice oa ks.length oc).ownBlock.toList) w5 (w7.setCell (XL d 5) (.slice oa' (ks.length+1) oc')):=(((Tn.of zE).trans (Tn.of bA)).trans ((Cn zO).mono (fun b hb=>List.mem_cons_of_mem _ hb))).trans ((DR w7 d 5 _).mono (by simp))
   have t3:Tn (d::m::(Value.slice oa ks.length oc).ownBlock.toList) K (w7.setCell (XL d 5) (.slice oa' (ks.length+1) oc')):=(Tn.grown zI (by simp)).trans (t2.mono (by intro b hb;simp at hb ⊢;rcases hb with hb|hb<;>simp[hb]));have tt:=(t1.trans (Tn.of bK)).trans t3;have yV:w.heap.size<=K.heap.size:=XI HT.o.size bK.size;have yT:w.heap.size<=A.heap.size:=XI (XI (XI yV zI.size) zE.size) bA.size
   have yZ:∀b∈d::m::(Value.slice oa ks.length oc).ownBlock.toList,base<=b:=by
    intro b hb;rcases List.mem_cons.1 hb with rfl|hb
    ·exact HD.o.dr.bd
    ·rcases List.mem_cons.1 hb with rfl|hb
     ·exact HD.o.dr.bm
     ·exact(Ac HD.o.dr.ord (by simpa using hb)).1
   have yQ:(w7.setCell (XL d 5) (.slice oa' (ks.length+1) oc')).heap[m]?=w5.heap[m]?:=t2.block m zJ.lt (fun e=>by
    rcases List.mem_cons.1 e with e|e
    ·exact zF.1 e.symm
    ·exact(yA m (by simpa using e)).2 rfl)
   have yO:=Bb.same zJ yQ;have yI:(Value.slice oa' (ks.length+1) oc').ownBlock=(Value.slice oa ks.length oc).ownBlock∨∃g,(Value.slice oa' (ks.length+1) oc').ownBlock=some g/\w.heap.size<=g:=by
    rcases zA with zA|zA
    ·exact .inl zA
    ·exact .inr ⟨_,zA,yT⟩
   have zZ:∀b,(Value.slice oa' (ks.length+1) oc').ownBlock=some b->b≠d:=fun b hb=>by
    rcases zA with zA|zA
    ·exact(yA b (zA▸hb)).1
    ·rw[zA] at hb
     cases hb;omega
   refine⟨⟨_,HD.o.newK tt (x7.set 5 _) ⟨n1+1,_,by omega,yO,?_⟩ ?_ yI,yI⟩,tt⟩
   ·refine((hH.snoc (x:=⟨s,births+1,text,refs⟩) (rc:=rc) yN zR.w8 rK).same (fun u=>Jq)).move t3 (fun b hb=> .inl ?_) (fun b hb=> ?_)
    ·unfold vB
     simp only[List.mem_cons,List.mem_append] at hb ⊢;rcases hb with e|e|e
     ·exact .inl e
     ·exact .inr (.inl e)
     ·exact .inr (.inr (.inl e))
    ·unfold vB at hb ⊢
     simp only[List.mem_cons,List.mem_append] at hb ⊢;rcases hb with e|e|e|e|e
     ·exact .inl (.inl e)
     ·exact .inl (.inr (.inl e))
     ·rcases zA with zA|zA
      ·rw[zA] at e
       exact .inl (.inr (.inr (.inl e)))
      ·rw[zA] at e
       simp at e;exact .inr (by have h1:=zI.size;have h2:=zE.size;have h3:=bA.size;omega)
     ·exact .inl (.inr (.inr (.inr (.inl e))))
     ·exact .inl (.inr (.inr (.inr (.inr e))))
   ·rw[MP,←KF (x:=⟨s,births+1,text,refs⟩) zN.o]
    exact Bh zK zZ 5 _
  have yP:Hid _:=hK;clear hK H7 H6 H5;go_wp2
  go_end0
  exact⟨rfl,yP.o⟩
theorem Ta (base d m:Nat) (O P L:Value) (wd now given births:Int) (ks:List Kd) (ps:List Pd) (ls:List Ld) (s text:ByteArray) (ra:Option Addr) (rn rc:Nat) (w:World) (h:DU w base d m O P L wd now given births ks ps ls) (hf:ks.length=600∨births=1000000000):
 Calls prog 200 #[.pointer (some ⟨d,0,none⟩),.string s,.agg #[.string text,.slice ra rn rc]] w fun e w'=>e=.panicked [{v:=BS 4 ⟨#[]⟩ ⟨#[]⟩,recovered:=false}]/\Xz w w':=by
 obtain⟨oa,oc,zG⟩:=Ay h.dr.ord;subst zG;obtain⟨W0,zB⟩:∃W,W=w.alloc (.cells #[.string text,.slice ra rn rc] 66):=⟨_,rfl⟩;have zA:=(Aq zB).1;have zC:=h.below zA;obtain⟨c4,c5⟩:=Aa.c2 zC.dr.box 4 5;have zE:Hid _:=zB;have HB:Hid _:=zA;clear zB zC h zA;by_cases hk:ks.length=600
 ·have zF:((ks.length:Int)==600)=true:=by simp;omega
  clear hf hk;go_enter func200,ntmps200;go_upto_region 1 with fail;rw[←zE.o];go_wp2;exact⟨rfl,rfl,HB.o⟩
 ·have zF:((ks.length:Int)==600)=false:=by simp;omega
  have zH:(births==1000000000)=true:=by simp;omega
  clear hf hk;go_enter func200,ntmps200;go_upto_region 1 with fail;rw[←zE.o];go_wp2;exact⟨rfl,rfl,HB.o⟩
def Bd (text:ByteArray) (refs:List ByteArray) (wd:Int):ByteArray:=Ec (AF text refs wd).data.toList wd.toNat
theorem NL (wd:Int) (m n:Nat) (f:Lit->Option Value) (ks:List Kd) (W:World) (B:Nat) (s:ByteArray) (w:World) (hM:Bb w 139 m n f) (hH:CI W B wd ks f) (hs:(s.size:Int)=wd):
 (¬Au ks s/\Calls prog 123 #[.agg #[XJ wd,.map (some m)],.string s] w fun e w'=>e=.returned (.tuple #[.agg #[XM,XK,XM,XN],.bool false])/\Xz w w')∨
 ∃x ra rc,x∈ks/\x.sum=s/\Ae W B ra x.refs/\Calls prog 123 #[.agg #[XJ wd,.map (some m)],.string s] w fun e w'=>e=.returned (.tuple #[.agg #[.string x.sum,XJ x.born,.string x.text,.slice ra x.refs.length rc],.bool true])/\Xz w w':=by
 rcases hH s hs with⟨h1,h2⟩|⟨x,ra,rc,h1,h2,h3,h4⟩
 ·exact .inl ⟨h2,Gv wd m n f s w hM hs _ _ _ _ _ ⟨_,_,_,rfl⟩ (by rw[h1];rfl) (by rw[h1];rfl)⟩
 ·exact .inr ⟨x,ra,rc,h1,h2,h4,Gv wd m n f s w hM hs _ _ _ _ _ ⟨_,_,_,rfl⟩ (by rw[h3];rfl) (by rw[h3];rfl)⟩
def Wg (base d m:Nat) (O P L:Value) (wd now given births:Int) (ks:List Kd) (ps:List Pd) (ls:List Ld) (text:ByteArray) (refs:List ByteArray) (w:World) (e:Ending) (w':World):Prop:=
 ((¬∀r∈refs,Au ks r)/\e=.panicked [{v:=BS 2 ⟨#[]⟩ ⟨#[]⟩,recovered:=false}]/\Xz w w')∨
 ((∀r∈refs,Au ks r)/\(
   (∃k∈ks,k.sum=Bd text refs wd/\AF k.text k.refs wd=AF text refs wd/\e=.returned (.string (Bd text refs wd))/\Xz w w')∨
   (∃k∈ks,k.sum=Bd text refs wd/\AF k.text k.refs wd≠AF text refs wd/\e=.panicked [{v:=BS 3 (AF k.text k.refs wd) (AF text refs wd),recovered:=false}]/\Xz w w')∨
   (¬Au ks (Bd text refs wd)/\(ks.length=600∨births=1000000000)/\e=.panicked [{v:=BS 4 ⟨#[]⟩ ⟨#[]⟩,recovered:=false}]/\Xz w w')∨
   (¬Au ks (Bd text refs wd)/\ks.length<600/\births<1000000000/\e=.returned (.string (Bd text refs wd))/\(∃O',DU w' base d m O' P L wd now given (births+1) (Dh ks ⟨Bd text refs wd,births+1,text,refs⟩) ps ls/\(O'.ownBlock=O.ownBlock∨∃g,O'.ownBlock=some g/\w.heap.size<=g))/\Tn (d::m::O.ownBlock.toList) w w')))
theorem UP (base d m:Nat) (O P L:Value) (wd now given births:Int) (ks:List Kd) (ps:List Pd) (ls:List Ld) (text:ByteArray) (refs:List ByteArray) (ra:Option Addr) (rc:Nat) (w:World) (h:DU w base d m O P L wd now given births ks ps ls) (yW:EO wd ks) (h1:1<=wd) (yF:∀k∈ks,k.text.size<=maxLen) (xC:((Bd text refs wd).size:Int)=wd) (xN:text.size<=maxLen) (xZ:refs.length<=1000) (xU:0<=births) (xV:births<=1000000000) (hr:Du w base (vB d m O P L) ra refs):
 Calls prog 168 #[.pointer (some ⟨d,0,none⟩),.agg #[.string text,.slice ra refs.length rc]] w (Wg base d m O P L wd now given births ks ps ls text refs w):=by
 obtain⟨W,hW⟩:∃W,W=w.alloc (.cells #[.string text,.slice ra refs.length rc] 66):=⟨_,rfl⟩;have bW:=(Aq hW).1;have xW:=(Aq hW).2.1;have x0:=(Aq hW).2.2;have HW:Hid _:=hW;have HD:Hid (∀X,Xz W X->DU X base d m O P L wd now given births ks ps ls/\Du X base (vB d m O P L) ra refs/\Aa X w.heap.size [.string text,.slice ra refs.length rc]/\Xz w X):=fun X hX=>by
  have hb:=bW.trans (hX.mono (by omega));exact⟨h.below hb,hr.move (U:=[]) (Tn.of hb) (by simp) (fun b hb=> .inl hb),Aa.below x0 hX,hb⟩
 have zJ:Hid _:=yW;have xR:Hid _:=yF;have xY:=h.lo;clear hW h hr bW yW yF;obtain⟨zV,zU⟩:=Aa.c2 x0 0 1;go_enter func168,ntmps168;go_upto_region 1 with fail;rw[←HW.o];clear HW;go_wp2
 go_loopw [15] (fun i wr=>∃(k:Nat),k<=refs.length/\i=XJ k/\Hid ((∀r∈refs.take k,Au ks r)/\Xz W wr)) (fun i _=>refs.length -(intOf i).toNat)
 case atStart=>exact⟨0,Nat.zero_le _,rfl,⟨fun r hr=>by simp at hr,Below.refl _ _⟩⟩
 case round=>
  clear zV zU x0;obtain⟨k,hk,rfl,HI⟩:=hrel;obtain⟨zT,zP,xr,yV⟩:=HD.o wr HI.o.2;have yE:Hid _:=zT;have yY:Hid _:=yV;obtain⟨zV,zU⟩:=Aa.c2 xr 0 1;by_cases hlt:k<refs.length
  ·obtain⟨b,off,ha,xX,hc⟩:=zP.row.at hlt
   subst ha;have HG:Hid _:=XD hlt;have c0:=hc k _ HG.o;have xK:Hid _:=XE hlt;clear hc zT zP;generalize refs[k]=r at *
   by_cases hth:Au ks r
   ·have yQ:Hid _:=DQ base d m O P L wd now given births ks ps ls r wr yE.o.dr zJ.o.sz hth
    have yA:Hid _:=hth;clear hth;go_wp2_with fail;refine Calls.mono yQ.o ?_;rintro e w2 ⟨rfl,zH⟩;have zO:Hid _:=HI.o.2.trans (zH.mono HI.o.2.size);clear yQ zH c0 zV zU xr;go_wp2;refine⟨⟨k+1,by omega,by go_num,⟨?_,zO.o⟩⟩,by simp[intOf];omega⟩;rw[xK.o];intro r' zI;rcases List.mem_append.1 zI with zI|zI
    ·exact HI.o.1 r' zI
    ·simp at zI
     rw[zI];exact yA.o
   ·have xF:Hid _:=IJ base d m O P L wd now given births ks ps ls r wr yE.o.dr zJ.o.sz hth
    have yA:Hid _:=hth;clear hth;go_wp2_with fail;refine Calls.mono xF.o ?_;rintro e w2 ⟨rfl,zH⟩;go_wp2;exact⟨rfl,.inl ⟨fun zA=>yA.o (zA r (XG HG.o)),rfl,yY.o.trans (zH.mono yY.o.size)⟩⟩
  ·obtain rfl:k=refs.length:=by omega
   have zA:=HI.o.1;rw[XF (XB)] at zA;have zB:Hid _:=zA;obtain⟨c0,_⟩:=zT.dr.box 0 _ rfl;have yM:Hid _:=HI.o.2;clear zA HI;have xJ:=yM.o.size;have D0:Below wr.heap.size wr wr.drew:=(Below.refl _ _).drew;have HF:Hid _:=KP text ra rc refs wd wr.drew (Ae.below' zP.row D0) (by omega) xN;clear zT zP;go_upto_region 6 with fail
   go_region_with (go_at_call 198;refine Calls.mono HF.o ?_;rintro e w2 ⟨rfl,zH⟩)
   all_goals
    have zO:Hid _:=yM.o.trans ((D0.trans zH).mono xJ);obtain⟨xA,xH,xQ,zZ⟩:=HD.o w2 zO.o;obtain⟨xL,_⟩:=xA.dr.box 0 _ rfl;have HS:Hid _:=SD (AF text refs wd) wd w2 (Ii _ _ _) h1 zJ.o.w8;have xP:Hid (Ec (AF text refs wd).data.toList wd.toNat=Bd text refs wd):=rfl;rw[xP.o] at HS;generalize hFF:AF text refs wd=FF at *
    generalize hSS:Bd text refs wd=SS at *
    clear zH c0 zV zU xr HF D0 yV;go_wp2_with fail;refine Calls.mono HS.o ?_;rintro e w3 ⟨rfl,yZ⟩;have xG:Hid _:=zO.o.trans (yZ.mono zO.o.size);obtain⟨zS,yJ,yH,zM⟩:=HD.o w3 xG.o;obtain⟨d0,d1⟩:=Aa.c2 zS.dr.box 0 1;have yG:Hid _:=zS;have xT:Hid _:=yJ;have xM:Hid _:=yH;have zC:Hid _:=zM;obtain⟨n3,f3,vA,yB,zY⟩:=zS.dr.map;clear yZ HS xL xA xH xQ zZ yJ yH zM zS
    rcases NL wd m n3 f3 ks w3 w3.heap.size SS w3 yB zY.holds xC with⟨xD,zN⟩|⟨x,xa,xc,zX,xE,yS,zN⟩
    ·have HC:Hid _:=zN
     have xB:Hid _:=xD;clear zN xD yB zY;go_wp2_with fail;refine Calls.mono HC.o ?_;rintro e w4 ⟨rfl,zF⟩;obtain⟨Y,hY⟩:∃Y,Y=w4.alloc (.cells #[XM,XK,XM,XN] 114):=⟨_,rfl⟩;have bY:=(Aq hY).1;have zE:Hid (Xz w3 Y):=zF.trans (bY.mono zF.size);have HY:Hid _:=hY;have yD:=yG.o.below zE.o;have yX:=Aa.below xM.o zE.o;obtain⟨y0,y1⟩:=Aa.c2 yX 0 1;have zG:Hid _:=zC.o.trans (zE.o.mono zC.o.size)
     by_cases hfull:ks.length=600∨births=1000000000
     ·have HL:Hid _:=Ta base d m O P L wd now given births ks ps ls SS text ra refs.length rc Y yD hfull
      have xS:Hid _:=hfull;clear zF hY bY yD yX hfull d0 d1 HC;go_upto_region 10 with fail;rw[←HY.o];go_wp2_with fail;refine Calls.mono HL.o ?_;rintro e w5 ⟨rfl,zW⟩;go_wp2;exact⟨rfl,.inr ⟨zB.o,.inr (.inr (.inl ⟨hSS▸xB.o,xS.o,rfl,zG.o.trans (zW.mono zG.o.size)⟩))⟩⟩
     ·have yO:ks.length<600:=by have:=zJ.o.len;omega
      have yR:births<1000000000:=by omega
      have HL:Hid _:=UO base d m O P L wd now given births ks ps ls SS text refs ra rc Y yD zJ.o xC yO xU yR (Du.move xT.o (U:=[]) (Tn.of zE.o) (by simp) (fun b hb=> .inl hb));clear zF hY bY yD yX hfull d0 d1 HC;go_upto_region 10 with fail;rw[←HY.o];go_wp2_with fail;refine Calls.mono HL.o ?_;rintro e w5 ⟨rfl,⟨O',yL,yP⟩,yU⟩;have HQ:Hid _:=And.intro yL (And.intro yP yU);clear yL yP yU HL;go_wp2
      go_ret;subst hSS;refine .inr ⟨zB.o,.inr (.inr (.inr ⟨xB.o,yO,yR,rfl,⟨O',HQ.o.1,?_⟩,(Tn.of zG.o).trans HQ.o.2.2⟩))⟩;rcases HQ.o.2.1 with e|⟨g,e,hg⟩
      ·exact .inl e
      ·exact .inr ⟨g,e,XI zG.o.size hg⟩
    ·have HC:Hid _:=zN
     have zR:Hid (x∈ks/\x.sum=SS):=⟨zX,xE⟩;clear zN yB zY;go_wp2_with fail;refine Calls.mono HC.o ?_;rintro e w4 ⟨rfl,zF⟩;obtain⟨Y,hY⟩:∃Y,Y=w4.alloc (.cells #[.string x.sum,XJ x.born,.string x.text,.slice xa x.refs.length xc] 114):=⟨_,rfl⟩;have bY:=(Aq hY).1;have zE:Hid (Xz w3 Y):=zF.trans (bY.mono zF.size);have HY:Hid _:=hY;have yD:=yG.o.below zE.o;have yK:=(Aq hY).2.2
     obtain⟨y2,y3⟩:=Aa.c2 yK 2 3;obtain⟨e0,_⟩:=yD.dr.box 0 _ rfl;have zG:Hid _:=zC.o.trans (zE.o.mono zC.o.size);have DY:Below Y.heap.size Y Y.drew:=(Below.refl _ _).drew;have xI:=yD.lo;have zK:=Ae.below' yS (zE.o.trans (DY.mono zE.o.size));have yN:Hid _:=KP x.text xa xc x.refs wd Y.drew zK (by have:=(zJ.o.refs x zX).1;omega) (xR.o x zX);clear zF hY bY yD yK d0 d1 HC yS zK zX xE
     go_upto_region 12 with fail;rw[←HY.o];go_region_with (go_at_call 198;refine Calls.mono yN.o ?_;rintro e w5 ⟨rfl,zW⟩)
     all_goals
      have yT:Hid _:=zG.o.trans ((DY.trans zW).mono zG.o.size);clear zW y2 y3 e0 yN;by_cases hsame:AF x.text x.refs wd=FF
      ·have hq:(FF.toList !=FF.toList)=false:=by simp
       rw[hsame];have yC:Hid _:=hsame;clear hsame;go_wp2;go_ret;subst hSS;exact .inr ⟨zB.o,.inl ⟨x,zR.o.1,zR.o.2,yC.o.trans hFF.symm,rfl,yT.o⟩⟩
      ·have yC:Hid _:=hsame
       have xO:=BJ hsame;have hq:((AF x.text x.refs wd).toList !=FF.toList)=true:=by simp[bne,xO]
       clear hsame;generalize hGG:AF x.text x.refs wd=GG at *
       have yI:Hid _:=hGG;clear hGG;go_wp2;subst hSS;refine⟨rfl,.inr ⟨zB.o,.inr (.inl ⟨x,zR.o.1,zR.o.2,?_,?_,yT.o⟩)⟩⟩
       ·rw[yI.o,hFF]
        exact yC.o
       ·rw[yI.o,hFF]
        rfl
def Cg (wd births:Int) (ks:List Kd) (text:ByteArray) (refs:List ByteArray) (ks1:List Kd) (births1:Int):Prop:=
 (∃k∈ks,k.sum=Bd text refs wd/\AF k.text k.refs wd=AF text refs wd/\ks1=ks/\births1=births)∨
 (¬Au ks (Bd text refs wd)/\ks.length<600/\births<1000000000/\ks1=Dh ks ⟨Bd text refs wd,births+1,text,refs⟩/\births1=births+1)
def Hd (wd given births:Int) (ks:List Kd) (ls:List Ld) (text:ByteArray) (refs:List ByteArray) (c:Int) (a b:ByteArray):Prop:=
 ((¬∀r∈refs,Au ks r)/\c=2/\a=⟨#[]⟩/\b=⟨#[]⟩)∨
 ((∀r∈refs,Au ks r)/\(
   (∃k∈ks,k.sum=Bd text refs wd/\AF k.text k.refs wd≠AF text refs wd/\c=3/\a=AF k.text k.refs wd/\b=AF text refs wd)∨
   (¬Au ks (Bd text refs wd)/\(ks.length=600∨births=1000000000)/\c=4/\a=⟨#[]⟩/\b=⟨#[]⟩)∨
   ((∃ks1 births1,Cg wd births ks text refs ks1 births1)/\(ls.length=200∨given=1000000000)/\c=4/\a=⟨#[]⟩/\b=⟨#[]⟩)))
theorem Cg.there {wd births:Int} {ks:List Kd} {text:ByteArray} {refs:List ByteArray} {zA:List Kd} {births1:Int} (h:Cg wd births ks text refs zA births1):Au zA (Bd text refs wd):=by
 rcases h with⟨k,hk,hs,_,rfl,_⟩|⟨_,_,_,rfl,_⟩
 ·exact⟨k,hk,hs⟩
 ·exact⟨⟨Bd text refs wd,births+1,text,refs⟩,Jq.2 (by simp),rfl⟩
theorem Cg.sz {wd births:Int} {ks:List Kd} {text:ByteArray} {refs:List ByteArray} {zB:List Kd} {births1:Int} (h:Cg wd births ks text refs zB births1) (zA:∀k∈ks,(k.sum.size:Int)=wd) (hS:((Bd text refs wd).size:Int)=wd):∀k∈zB,(k.sum.size:Int)=wd:=by
 rcases h with⟨k,hk,hs,_,rfl,_⟩|⟨_,_,_,rfl,_⟩
 ·exact zA
 ·intro k hk
  rcases List.mem_append.1 (Jq.1 hk) with hk|hk
  ·exact zA k hk
  ·simp at hk
   rw[hk];exact hS
theorem LS (base d m:Nat) (O P L:Value) (wd now given births:Int) (ks:List Kd) (ps:List Pd) (ls:List Ld) (s nm text:ByteArray) (num:Int) (refs:List ByteArray) (ra:Option Addr) (rc:Nat) (w:World) (h:DU w base d m O P L wd now given births ks ps ls) (yL:EO wd ks) (h1:1<=wd) (xC:∀k∈ks,k.text.size<=maxLen) (yZ:((Bd text refs wd).size:Int)=wd) (xH:text.size<=maxLen) (xO:refs.length<=1000) (xU:0<=births) (xB:births<=1000000000) (hr:Du w base (vB d m O P L) ra refs) (hl:ls.length<=200) (xI:0<=given) (xV:given<=1000000000) (xP:0<=now) (xR:now<=1000000000) (xF:0<=num) (xM:num<=1000000000):
 Calls prog 139 #[.pointer (some ⟨d,0,none⟩),.agg #[XJ 1,.string s,.string nm,XJ num,.string text,.slice ra refs.length rc]] w fun e w'=>(∃c a b,Hd wd given births ks ls text refs c a b/\e=.panicked [{v:=BS c a b,recovered:=false}]/\Tn (vB d m O P L) w w')∨
  (∃zG births1,(∀r∈refs,Au ks r)/\Cg wd births ks text refs zG births1/\ls.length<200/\given<1000000000/\e=.returned (.agg #[XK,XK,XK,XK,XK,XN,XN,XN,.string (Bd text refs wd),XJ (given+1),XM,XM])/\∃O' L',DU w' base d m O' P L' wd now (given+1) births1 zG ps (ls++[⟨given+1,Bd text refs wd,now+num⟩])/\Tn (vB d m O P L) w w'):=by
 obtain⟨W,hW⟩:∃W,W=((w.alloc (.cells #[XJ 1,.string s,.string nm,XJ num,.string text,.slice ra refs.length rc] 77)).alloc (.cells #[XK,XK,XK,XK,XK,XN,XN,XN,XM,XK,XM,XM] 30)).alloc (.cells #[XK,XK,XK,XK,XK,XN,XN,XN,XM,XK,XM,XM] 30):=⟨_,rfl⟩;have hB:=(Bp hW).1;have yT:=(Bp hW).2.1;have xE:=(Bp hW).2.2.1;have zR:Aa W (w.heap.size+1) As:=by
  have h1:=Aa.new (w.alloc (.cells #[XJ 1,.string s,.string nm,XJ num,.string text,.slice ra refs.length rc] 77)) As 30;rw[World.size_alloc] at h1;rw[hW];exact Aa.below (v:=XK) h1 (XA)
 have zO:Aa W (w.heap.size+2) As:=by
  have h1:=Aa.new ((w.alloc (.cells #[XJ 1,.string s,.string nm,XJ num,.string text,.slice ra refs.length rc] 77)).alloc (.cells #[XK,XK,XK,XK,XK,XN,XN,XN,XM,XK,XM,XM] 30)) As 30;rw[World.size_alloc,World.size_alloc] at h1;rw[hW];exact h1
 have yX:W.heap[w.heap.size+1]?=some (.cells #[XK,XK,XK,XK,XK,XN,XN,XN,XM,XK,XM,XM] 30):=by
  rw[hW,Below.heap_alloc _ _ _ (by simp)];have:=heap_alloc_new (w.alloc (.cells #[XJ 1,.string s,.string nm,XJ num,.string text,.slice ra refs.length rc] 77)) (.cells #[XK,XK,XK,XK,XK,XN,XN,XN,XM,XK,XM,XM] 30);rw[World.size_alloc] at this;exact this
 have yP:W.heap[w.heap.size+2]?=some (.cells #[XK,XK,XK,XK,XK,XN,XN,XN,XM,XK,XM,XM] 30):=by
  have:=heap_alloc_new ((w.alloc (.cells #[XJ 1,.string s,.string nm,XJ num,.string text,.slice ra refs.length rc] 77)).alloc (.cells #[XK,XK,XK,XK,XK,XN,XN,XN,XM,XK,XM,XM] 30)) (.cells #[XK,XK,XK,XK,XK,XN,XN,XN,XM,XK,XM,XM] 30);rw[World.size_alloc,World.size_alloc] at this;rw[hW];exact this
 have hD:=h.below hB;have vF:=h.dr.box.lt;have yV:∀b∈vB d m O P L,b<w.heap.size:=h.dr.lts;have vC:base<=w.heap.size:=h.lo;have HC:Hid _:=UP base d m O P L wd now given births ks ps ls text refs ra rc W hD yL h1 xC yZ xH xO xU xB (hr.move (U:=[]) (Tn.of hB) (by simp) (fun b hb=> .inl hb));have HW:Hid _:=hW
 have HZ:Hid (Aa W (w.heap.size+1) As/\Aa W (w.heap.size+2) As/\W.heap[w.heap.size+1]?=some (.cells #[XK,XK,XK,XK,XK,XN,XN,XN,XM,XK,XM,XM] 30)/\W.heap[w.heap.size+2]?=some (.cells #[XK,XK,XK,XK,XK,XN,XN,XN,XM,XK,XM,XM] 30)/\Xz w W/\W.heap.size=w.heap.size+3/\Aa W w.heap.size [XJ 1,.string s,.string nm,XJ num,.string text,.slice ra refs.length rc]):=⟨zR,zO,yX,yP,hB,yT,xE⟩
 have yR:Hid (∀b∈vB d m O P L,b<w.heap.size):=yV;have xQ:Hid (DU W base d m O P L wd now given births ks ps ls):=hD;have xT:Hid (∀k∈ks,(k.sum.size:Int)=wd):=yL.sz;obtain⟨e0,e3,e4,e5⟩:=Aa.c4 xE 0 3 4 5;clear hW h hD zR zO yX yP hB yT xE yV hr yL;go_enter func139,ntmps139;go_upto_region 2 with fail;rw[←HW.o];clear HW;go_wp2_with fail;refine Calls.mono HC.o ?_;intro e w1 zI
 have yG:Tn (vB d m O P L) w W:=Tn.of HZ.o.2.2.2.2.1;obtain⟨zX,rfl,hb⟩|⟨zH,zI⟩:=zI
 ·clear e0 e3 e4 e5
  go_wp2;exact⟨rfl,.inl ⟨2,_,_,.inl ⟨zX,rfl,rfl,rfl⟩,rfl,yG.trans (Tn.of hb)⟩⟩
 have zW:(∃c a b,Hd wd given births ks ls text refs c a b/\e=.panicked [{v:=BS c a b,recovered:=false}]/\Tn (vB d m O P L) W w1)∨(e=.returned (.string (Bd text refs wd))/\∃zG births1 O1,Cg wd births ks text refs zG births1/\DU w1 base d m O1 P L wd now given births1 zG ps ls/\Tn (vB d m O P L) W w1/\(O1.ownBlock=O.ownBlock∨∃g,O1.ownBlock=some g/\W.heap.size<=g)):=by
  rcases zI with⟨k,hk,hs,hf,rfl,hb⟩|⟨k,hk,hs,hf,rfl,hb⟩|⟨yA,zA,rfl,hb⟩|⟨yA,xG,xJ,rfl,⟨O',yK,yE⟩,ht⟩
  ·exact .inr ⟨rfl,ks,births,O,.inl ⟨k,hk,hs,hf,rfl,rfl⟩,xQ.o.below hb,Tn.of hb,.inl rfl⟩
  ·exact .inl ⟨3,_,_,.inr ⟨zH,.inl ⟨k,hk,hs,hf,rfl,rfl,rfl⟩⟩,rfl,Tn.of hb⟩
  ·exact .inl ⟨4,_,_,.inr ⟨zH,.inr (.inl ⟨yA,zA,rfl,rfl,rfl⟩)⟩,rfl,Tn.of hb⟩
  ·exact .inr ⟨rfl,_,_,O',.inr ⟨yA,xG,xJ,rfl,rfl⟩,yK,ht.mono (by intro b hb;unfold vB;simp at hb ⊢;rcases hb with rfl|rfl|hb<;>simp[*]),yE⟩
 clear zI;have zV:Hid (∀r∈refs,Au ks r):=zH;clear zH;obtain⟨c,a,b,yA,rfl,ht⟩|⟨rfl,zG,births1,O1,zK,yH,zT,yK⟩:=zW
 ·clear e0 e3 e4 e5
  go_wp2;exact⟨rfl,.inl ⟨c,a,b,yA,rfl,yG.trans ht⟩⟩
 have zz:=HZ.o.2.2.2.2.2.1;have zY:∀j,w.heap.size<=j->j∉vB d m O P L:=fun j hj h=>by have:=yR.o _ h;omega
 have yC:Aa w1 (w.heap.size+1) As:=Aa.same HZ.o.1 (zT.block _ (by omega) (zY _ (by omega)));have zU:Aa w1 (w.heap.size+2) As:=Aa.same HZ.o.2.1 (zT.block _ (by omega) (zY _ (by omega)));have yF:Aa w1 w.heap.size [XJ 1,.string s,.string nm,XJ num,.string text,.slice ra refs.length rc]:=Aa.same HZ.o.2.2.2.2.2.2 (zT.block _ (by omega) (zY _ (by omega)))
 have zS:w1.heap[w.heap.size+1]?=some (.cells #[XK,XK,XK,XK,XK,XN,XN,XN,XM,XK,XM,XM] 30):=(zT.block _ (by omega) (zY _ (by omega))).trans HZ.o.2.2.1;have zB:w1.heap[w.heap.size+2]?=some (.cells #[XK,XK,XK,XK,XK,XN,XN,XN,XM,XK,XM,XM] 30):=(zT.block _ (by omega) (zY _ (by omega))).trans HZ.o.2.2.2.1;obtain⟨X,hX⟩:∃X,X=w1.setCell (XL (w.heap.size+2) 8) (.string (Bd text refs wd)):=⟨_,rfl⟩
 have tX:Tn [w.heap.size+2] w1 X:=by rw[hX];exact DR _ _ _ _
 have zF:Aa X (w.heap.size+2) (As.set 8 (.string (Bd text refs wd))):=by rw[hX];exact zU.set 8 _
 have zM:Aa X (w.heap.size+1) As:=Aa.same yC (tX.block _ yC.lt (by simp));have yJ:Aa X w.heap.size [XJ 1,.string s,.string nm,XJ num,.string text,.slice ra refs.length rc]:=Aa.same yF (tX.block _ yF.lt (by simp));have zN:DU X base d m O1 P L wd now given births1 zG ps ls:=yH.turn tX (by intro b hb;simp at hb;subst hb;exact⟨by omega,yH.notin zB (by omega)⟩);have o8:=(zU 8 _ rfl).2
 have v8:=(zU 8 _ rfl).1;have zJ:=zK.sz xT.o yZ;have zZ:Hid _:=And.intro zK (And.intro yH (And.intro zT yK));have yI:Hid _:=And.intro tX (And.intro zF (And.intro zM (And.intro zN (And.intro zB zS))));have yU:Hid _:=hX;have xD:Hid (∃cur,X.heap[w.heap.size+2]?=some (.cells cur 30)):=⟨_,by rw[hX,setCell_eq_setRow w1 _ _ _ _ _ _ zB];exact setRow_heap w1 _ _ _ _ _ zB⟩;obtain⟨xK,_⟩:=yJ 3 _ rfl
 have s8:=(zF 8 _ rfl).1;have xA:w.heap.size+2<X.heap.size:=zF.lt;by_cases zA:ls.length=200∨given=1000000000
 ·have HL:Hid _:=Lm base d m O1 P L wd now given births1 zG ps ls (Bd text refs wd) num X zN zJ zK.there zA
  clear e0 e3 e4 e5 hX tX zF zM yJ zN yC zU yF zS zB zJ HC;go_upto_region 5 with fail;rw[←yU.o];go_wp2_with fail;refine Calls.mono HL.o ?_;rintro e w2 ⟨rfl,xN⟩;go_wp2;refine⟨rfl,.inl ⟨4,_,_,.inr ⟨zV.o,.inr (.inr ⟨⟨_,_,zZ.o.1⟩,zA,rfl,rfl,rfl⟩)⟩,rfl,?_⟩⟩;have t0:=(yG.trans zZ.o.2.2.1).fresh yI.o.1 (show w.heap.size<=w.heap.size+2 by omega);exact t0.trans (Tn.of xN)
 ·have yQ:ls.length<200:=by omega
  have yN:given<1000000000:=by omega
  have HL:Hid _:=MF base d m O1 P L wd now given births1 zG ps ls (Bd text refs wd) num X zN zJ zK.there yQ xI yN xP xR xF xM;clear e0 e3 e4 e5 hX tX zF zM yJ zN yC zU yF zS zB zJ HC zA;go_upto_region 5 with fail;rw[←yU.o];go_wp2_with fail;refine Calls.mono HL.o ?_;rintro e w2 ⟨rfl,L',yD,zP⟩;obtain⟨tX,zF,zM,zN,zB,zS⟩:=yI.o
  have zE:∀b∈d::L.ownBlock.toList,b<w.heap.size:=fun b hb=>yR.o b (by unfold vB;simp at hb ⊢;rcases hb with rfl|hb<;>simp[*]);have yS:Aa w2 (w.heap.size+1) As:=Aa.same zM (zP.block _ zM.lt (fun h=>by have:=zE _ h;omega));have zC:Aa w2 (w.heap.size+2) (As.set 8 (.string (Bd text refs wd))):=Aa.same zF (zP.block _ zF.lt (fun h=>by have:=zE _ h;omega))
  have yW:X.heap[w.heap.size+1]?=_:=(tX.block _ (by have:=zZ.o.2.2.1.size;omega) (by simp)).trans zS;have yO:w2.heap[w.heap.size+1]?=some (.cells #[XK,XK,XK,XK,XK,XN,XN,XN,XM,XK,XM,XM] 30):=(zP.block _ zM.lt (fun h=>by have:=zE _ h;omega)).trans yW;obtain⟨yM,yY⟩:=xD.o;have yE:w2.heap[w.heap.size+2]?=some (.cells yM 30):=(zP.block _ zF.lt (fun h=>by have:=zE _ h;omega)).trans yY
  have yB:Hid _:=And.intro yD (And.intro zP (And.intro (yD.notin yO (by omega)) (yD.notin yE (by omega))));obtain⟨⟨y0,q0⟩,⟨y1,q1⟩,⟨y2,q2⟩,⟨y3,q3⟩,⟨y4,q4⟩,⟨y5,q5⟩,⟨y6,q6⟩,⟨y7,q7⟩,⟨y8,q8⟩,⟨y9,q9⟩,⟨xL,vD⟩,xS,vA⟩:=AS yS;obtain⟨v0,p0⟩:=zC 0 _ rfl;obtain⟨v1,p1⟩:=zC 1 _ rfl;obtain⟨v2,p2⟩:=zC 2 _ rfl;obtain⟨v3,p3⟩:=zC 3 _ rfl;obtain⟨v4,p4⟩:=zC 4 _ rfl;obtain⟨v5,p5⟩:=zC 5 _ rfl;obtain⟨v6,p6⟩:=zC 6 _ rfl
  obtain⟨v7,p7⟩:=zC 7 _ rfl;obtain⟨xZ,p8⟩:=zC 8 _ rfl;obtain⟨v9,p9⟩:=zC 9 _ rfl;obtain⟨vE,xW⟩:=zC 10 _ rfl;obtain⟨xY,xX⟩:=zC 11 _ rfl;clear yD zP yS zC yO yE yW tX zF zM zN zB zS HL zE yY xK s8 o8 v8;go_wp2;refine bodyPost_ret (v:=.agg #[XK,XK,XK,XK,XK,XN,XN,XN,.string (Bd text refs wd),XJ (given+1),XM,XM]) (by simp[results,results139,go_sem,y0,y1,y2,y3,y4,y5,y6,y7,y8,y9,xL,xS]) rfl ?_
  have T9:=(Tn.set (V:=[w.heap.size+1,w.heap.size+2]) w2 (w.heap.size+2) 9 (XJ (given+1)) (by simp)).trans (Tn.mono (Bc (w2.setCell (XL (w.heap.size+2) 9) (XJ (given+1))) (w.heap.size+1) XK XK XK XK XK XN XN XN (.string (Bd text refs wd)) (XJ (given+1)) XM XM) (by simp))
  refine .inr ⟨zG,births1,zV.o,zZ.o.1,yQ,yN,rfl,O1,L',yB.o.1.turn T9 (by intro b hb;simp at hb;rcases hb with rfl|rfl;exact⟨by omega,yB.o.2.2.1⟩;exact⟨by omega,yB.o.2.2.2⟩),?_⟩;have t0:=(yG.trans zZ.o.2.2.1).fresh yI.o.1 (show w.heap.size<=w.heap.size+2 by omega);have t1:=t0.trans (yB.o.2.1.mono (V':=vB d m O P L) (by intro b hb;unfold vB;simp at hb ⊢;rcases hb with rfl|hb<;>simp[*]))
  exact⟨T9.os.trans t1.os,T9.tape.trans t1.tape,T9.output.trans t1.output,XI t1.size T9.size,fun b hb hv=>(T9.block b (XH hb t1.size) (by simp;omega)).trans (t1.block b hb hv)⟩
def UQ (w w':World) (e:Ending) (wd now given births:Int) (T P L:Value) (ls:List Ld) (s:ByteArray) (hold:Int) (base:Nat):Prop:=
 Tn L.ownBlock.toList w w'/\(((200<=ls.length∨1000000000<=given)/\e=.returned (.agg #[XJ 4,XK,XK,XK,XK,XN,XN,XN,XM,XK,XM,XM]))∨
  ((ls.length<200/\given<1000000000)/\∃g c,e=.returned (.agg #[XK,XJ wd,XJ now,XJ (given+1),XJ births,T,P,.slice (some ⟨g,0,none⟩) (ls.length+1) c,XM,XJ (given+1),XM,XM])/\w'.ownsRow base 137 3 (.slice (some ⟨g,0,none⟩) (ls.length+1) c) (ls++[(⟨given+1,s,now+hold⟩:Ld)]).length (Ab lC (ls++[(⟨given+1,s,now+hold⟩:Ld)]))/\(L.ownBlock=some g∨w.heap.size<=g)))
theorem Fv (wd now given births:Int) (ta pa la:Option Addr) (tn tc pn pc lc base:Nat) (ls:List Ld) (s:ByteArray) (zA:Int) (w:World) (ho:w.ownsRow base 137 3 (.slice la ls.length lc) ls.length (Ab lC ls)) (zP:base<=w.heap.size) (hl:ls.length<=1000) (yF:0<=given) (yB:given<=1000000000) (zY:0<=now) (yA:now<=1000000000) (zT:0<=zA) (zW:zA<=1000000000):
 Calls prog 88 #[.agg #[XJ wd,XJ now,XJ given,XJ births,.slice ta tn tc,.slice pa pn pc,.slice la ls.length lc],.string s,XJ zA] w fun e w'=>UQ w w' e wd now given births (.slice ta tn tc) (.slice pa pn pc) (.slice la ls.length lc) ls s zA base:=by
 obtain⟨W,hW⟩:∃W,W=(w.alloc (.cells #[XJ wd,XJ now,XJ given,XJ births,.slice ta tn tc,.slice pa pn pc,.slice la ls.length lc] 28)).alloc (.cells #[XK,XK,XK,XK,XK,XN,XN,XN,XM,XK,XM,XM] 30):=⟨_,rfl⟩;have bW:=(AP hW).1;have zK:=(AP hW).2.1;have x0:=(AP hW).2.2.1;have x1:Aa W (w.heap.size+1) As:=by
  have h1:=Aa.new (w.alloc (.cells #[XJ wd,XJ now,XJ given,XJ births,.slice ta tn tc,.slice pa pn pc,.slice la ls.length lc] 28)) As 30;rw[World.size_alloc] at h1;rw[hW];exact h1
 have HW:Hid _:=hW;have HB:Hid _:=bW;by_cases hfull:200<=ls.length∨1000000000<=given
 ·obtain⟨⟨y0,q0⟩,⟨y1,q1⟩,⟨y2,q2⟩,⟨y3,q3⟩,⟨y4,q4⟩,⟨y5,q5⟩,⟨y6,q6⟩,⟨y7,q7⟩,⟨y8,q8⟩,⟨y9,q9⟩,⟨zG,zZ⟩,zI,zV⟩:=AS x1
  obtain⟨v0,v1,v2,v3,v4,v5,v6,v7⟩:=Br x0;have HF:Hid _:=hfull;have zE:(decide ((200:Int)<=(ls.length:Int))=true)∨(decide ((200:Int)<=(ls.length:Int))=false/\decide ((1000000000:Int)<=given)=true):=by
   by_cases h:200<=ls.length
   ·left;simp;omega
   ·right
    refine⟨by simp;omega,?_⟩;rcases hfull with h'|h'
    ·exact absurd h' h
    ·simpa using h'
  clear hW x0 x1 bW zK hfull ho;rcases zE with zE|⟨zE,yI⟩
  all_goals
   go_enter func88,ntmps88;go_upto_region 1 with fail;rw[←HW.o];clear HW;go_wp2;refine bodyPost_ret (v:=.agg #[XJ 4,XK,XK,XK,XK,XN,XN,XN,XM,XK,XM,XM]) (by simp[results,results88,go_sem,y0,y1,y2,y3,y4,y5,y6,y7,y8,y9,zG,zI]) rfl ?_;exact⟨Tn.of (HB.o.trans (Tn.below (Bc W (w.heap.size+1) _ _ _ _ _ _ _ _ _ _ _ _) HB.o.size (by intro v hv;simp at hv;omega))),.inl ⟨HF.o,rfl⟩⟩
 ·have zU:ls.length<200/\given<1000000000:=by omega
  obtain⟨X,hX⟩:∃X,X=W.setCell (XL (w.heap.size) 2) (XJ (given+1)):=⟨_,rfl⟩;have tX:Tn [w.heap.size] W X:=by rw[hX];exact DR _ _ _ _
  have u0:Aa X w.heap.size [XJ wd,XJ now,XJ (given+1),XJ births,.slice ta tn tc,.slice pa pn pc,.slice la ls.length lc]:=by rw[hX];exact x0.set 2 _
  have u1:=Aa.same x1 (tX.block _ (by omega) (by simp));have zH:=bW.trans (tX.below bW.size (by simp));have zC:∀g,(Value.slice la ls.length lc).ownBlock=some g->g<w.heap.size:=fun g hg=>(Ac ho hg).2;have zJ:=Ad ho zH;have yE:w.heap.size+2<=X.heap.size:=by have:=tX.size;omega
  obtain⟨g,c,w8,zF,zN,zB,zO⟩:=Mg X base _ ls zJ (⟨given+1,s,now+zA⟩:Ld) (by omega) (by omega) 26;dsimp only at zF;have e0:=Aa.same u0 (zB.block _ u0.lt (fun e=>by have:=zC _ e.symm;omega));have e1:=Aa.same u1 (zB.block _ (by omega) (fun e=>by have:=zC _ e.symm;omega));obtain⟨c2,f2⟩:=x0 2 _ rfl;obtain⟨c6,_⟩:=x0 6 _ rfl;obtain⟨d1,d2,d6⟩:=Aa.c3 u0 1 2 6;obtain⟨i0,i1,i2,i3,i4,i5,i6,i7⟩:=Br e0
  obtain⟨⟨y0,q0⟩,⟨y1,q1⟩,⟨y2,q2⟩,⟨y3,q3⟩,⟨y4,q4⟩,⟨y5,q5⟩,⟨y6,q6⟩,⟨y7,q7⟩,⟨y8,q8⟩,⟨y9,q9⟩,⟨zG,zZ⟩,zI,zV⟩:=AS e1;have k6:=(e0 6 _ rfl).2;have yC:=Gh zY yA zT zW;have yD:¬((200:Int)<=(ls.length:Int)):=by omega
  have yG:¬((1000000000:Int)<=given):=by omega
  have zM:Hid _:=hX;have H8:Hid (w8.ownsRow base 137 3 (.slice (some ⟨g,0,none⟩) (ls.length+1) c) (ls++[(⟨given+1,s,now+zA⟩:Ld)]).length (Ab lC (ls++[(⟨given+1,s,now+zA⟩:Ld)]))/\X.grownBy w8 (Value.slice la ls.length lc).ownBlock/\((Value.slice la ls.length lc).ownBlock=some g∨g=X.heap.size+1)):=⟨zN,zB,zO⟩;have zS:Hid _:=zH;have zX:Hid _:=zC;have zR:Hid _:=zU
  clear hW hX x0 x1 u0 u1 tX e0 e1 bW zK zJ ho zN zB zO zH zC hfull;go_enter func88,ntmps88;go_upto_region 1 with fail;rw[←HW.o];clear HW;go_upto_region 4 with fail;rw[←zM.o];clear zM c2 f2 c6;go_wp2_with (at_builtin;refine wpList_append_run rfl _ _ 26 26 rfl rfl rfl zF ?_);clear zF d1 d2 d6;go_wp2
  refine bodyPost_ret (v:=.agg #[XK,XJ wd,XJ now,XJ (given+1),XJ births,.slice ta tn tc,.slice pa pn pc,.slice (some ⟨g,0,none⟩) (ls.length+1) c,XM,XJ (given+1),XM,XM]) (by simp[results,results88,go_sem,y0,y1,y2,y3,y4,y5,y6,y7,y8,y9,zG,zI]) rfl ?_
  have T':=(Tn.set (V:=[w.heap.size,w.heap.size+1]) w8 w.heap.size 6 (.slice (some ⟨g,0,none⟩) (ls.length+1) c) (by simp)).trans (Tn.mono (Bc (w8.setCell (XL (w.heap.size) 6) (.slice (some ⟨g,0,none⟩) (ls.length+1) c)) (w.heap.size+1) XK (XJ wd) (XJ now) (XJ (given+1)) (XJ births) (.slice ta tn tc) (.slice pa pn pc) (.slice (some ⟨g,0,none⟩) (ls.length+1) c) XM (XJ (given+1)) XM XM) (by simp))
  have t8:=(Tn.of zS.o).trans (Cn H8.o.2.1);have yH:g<w.heap.size∨w.heap.size+2<=g:=by
   rcases H8.o.2.2 with e|e
   ·exact .inl (zX.o g e)
   ·exact .inr (by omega)
  refine⟨⟨T'.os.trans t8.os,T'.tape.trans t8.tape,T'.output.trans t8.output,XI t8.size T'.size,fun b hb hv=>(T'.block b (XH hb t8.size) (by simp;omega)).trans (t8.block b hb hv)⟩,.inr ⟨zR.o,g,c,rfl,Ah H8.o.1 (fun q hq=>T'.block q (Ac H8.o.1 hq).2 ?_),?_⟩⟩
  ·obtain rfl:g=q:=by simpa [Value.ownBlock] using hq
   simp;omega
  ·rcases H8.o.2.2 with e|e
   ·exact .inl e
   ·exact .inr (by omega)
end Go.Proofs.YtpekbmegopfhfaaGreatDoor
