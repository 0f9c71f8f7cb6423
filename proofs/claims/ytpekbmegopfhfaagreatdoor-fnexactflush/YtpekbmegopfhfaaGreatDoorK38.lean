import Derived.Test.YtpekbmegopfhfaaGreatDoorK34
import Derived.Test.YtpekbmegopfhfaaGreatDoorK37
set_option maxRecDepth 100000
set_option maxHeartbeats 16000000
namespace Go.Proofs.YtpekbmegopfhfaaGreatDoor
open Go.ChangeShapes Go.WideShapes Go.ChangeAt Go.RowKit _root_.Go.Proofs.Tryz
def z17:List Value:=[XK,XK,XN,XN,XK,XK,XK,XK,XN,XN,XN,XK,XN,XN,XK,XK,XK]
def Ic (v:Vd) (l:List ByteArray):Vd:={v with ss:=l,tt:=[]}
theorem Aw.flushed {X:World} {base n:Nat} {S U T P L Q M u:Value} {rs:List Value} {v:Vd} {l:List ByteArray} (h:Aw X base S U T P L Q M rs v) (hn:∀g∈CE S U T P L Q M rs,g<n) (hu:Ar X n u l) (hb:base<=n):Aw X base u XN T P L Q M rs (Ic v l):=by
 refine⟨hu.mono hb,Ar.nil _ _,h.st,h.q,h.m,?_⟩;have zA:=h.nd;unfold CE at zA hn ⊢;have e:(AD XN).toList=[]:=rfl;rw[e,List.append_nil];refine List.nodup_append.2 ⟨?_,(List.nodup_append.1 zA).2.1,fun a ha b hb' e=> ?_⟩
 ·cases AD u<;>simp
 ·have h1:=(hu.blk (Option.mem_toList.1 ha)).1
  have h2:=hn b (List.mem_append.2 (.inr hb'));omega
theorem Ql (v:Vd) (a0 a1 s t:Value) (R:List Value) (l:List ByteArray) (w:World) (hl:R.length=13)
 (hV:∀X,Xz w X->Calls prog 30 #[.agg (a0::a1::s::t::R).toArray] X fun e w'=>Ak (Cj v) X w' e)
 (hC:Cj v->∀X,Xz w X->Calls prog 80 #[.agg (a0::a1::s::t::R).toArray] X fun e w'=>∃(S U T P L Q M:Value) (rs:List Value),e=.returned (.agg (AK v S U T P L Q M).toArray)/\Aw w' X.heap.size S U T P L Q M rs v/\Xz X w')
 (hS:Cj v->∀X,Xz w X->Calls prog 81 #[.agg #[s,t]] X fun e w'=>∃u,e=.returned (.agg #[u,XN])/\w'.ownsRow X.heap.size 9 1 u l.length (l.map Value.string)/\Xz X w'):
 Calls prog 39 #[.agg (a0::a1::s::t::R).toArray] w fun e w'=>∃(u:Vd) (S U T P L Q M:Value) (rs:List Value),(¬Cj v/\u=v0∨Cj v/\u=Ic v l)/\e=.returned (.agg (AK u S U T P L Q M).toArray)/\Aw w' w.heap.size S U T P L Q M rs u/\Xz w w':=by
 obtain⟨W,hW⟩:∃W,W=(w.alloc (.cells (a0::a1::s::t::R).toArray 44)).alloc (.cells #[XK,XK,XN,XN,XK,XK,XK,XK,XN,XN,XN,XK,XN,XN,XK,XK,XK] 44):=⟨_,rfl⟩;have bW:=(AP hW).1;have zW:=(AP hW).2.1;have HX:Hid (Aa W w.heap.size (a0::a1::s::t::R)):=(AP hW).2.2.1;have HZ:Hid (Aa W (w.heap.size+1) z17):=(AP (k:=z17) hW).2.2.2
 have yH:Hid ((a0::a1::s::t::R).length=17):=by show(a0::a1::s::t::R).length=17;simp[hl]
 have HV:Hid _:=hV;have HC:Hid _:=hC;have HS:Hid _:=hS;have HW:Hid _:=hW;clear hW hV hC hS hl;go_enter func39,ntmps39;go_upto_region 1 with fail;rw[←HW.o];clear HW;go_wp2_with (refine wpList_load_mid rfl 44 _ rfl w.heap.size 0 rfl (a0::a1::s::t::R) _ HX.o.range underlying44 rfl (by rw[yH.o];kernel_rfl) ?_);refine(HV.o W bW).mono ?_;rintro e w1 ⟨o,rfl,ho,zF⟩;have z1:=zF.size
 have zY:Hid (Aa w1 w.heap.size (a0::a1::s::t::R)):=Aa.below HX.o zF;have zP:Hid (Aa w1 (w.heap.size+1) z17):=Aa.below (v:=XK) HZ.o zF;have zE:Hid (Xz w w1):=bW.trans (zF.mono bW.size);clear zF HV HX HZ bW;cases o with
 |false=>
  have yR:Hid (¬Cj v):=fun h=>by have:=ho.2 h;cases this
  clear ho HC HS;have zG:z17.toArray.all (·.oneCell')=true:=by simp[z17,Value.oneCell']
  have yG:Hid _:=And.intro zG zP.o.there;obtain⟨W9,zU⟩:∃X,X=w1.setCells (w.heap.size+1) 0 z17:=⟨_,rfl⟩;have x9:Aa W9 (w.heap.size+1) z17:=by rw[zU];exact zP.o.setAll _ rfl
  have b9:Below w.heap.size w W9:=zE.o.trans (by rw[zU];exact(AL _ _ _ _).below zE.o.size (by simp));have yO:Hid _:=zU;clear zG zU;go_wp2_with (refine wpList_store_mid rfl 44 _ _ rfl (w.heap.size+1) 0 #[XK,XK,XN,XN,XK,XK,XK,XK,XN,XN,XN,XK,XN,XN,XK,XK,XK] rfl rfl yG.o.2 (by kernel_rfl) yG.o.1 ?_);change bodyPost _ _ _ _ _ (w1.setCells (w.heap.size+1) 0 z17);rw[←yO.o]
  refine bodyPost_ret (CG results39 _ _ (w.heap.size+1) z17 _ rfl x9.range underlying44 rfl (by kernel_rfl)) rfl ?_;exact⟨v0,_,_,_,_,_,_,_,[],.inl ⟨yR.o,rfl⟩,rfl,Aw.nil _ _,b9⟩
 |true=>
  have zC:Hid (Cj v):=ho.1 rfl;clear ho;go_wp2_with (refine wpList_load_mid rfl 44 _ rfl w.heap.size 0 rfl (a0::a1::s::t::R) _ zY.o.range underlying44 rfl (by rw[yH.o];kernel_rfl) ?_);refine(HC.o zC.o w1 zE.o).mono ?_;rintro e w2 ⟨S,U,T,P,L,Q,M,rs,rfl,zN,zT⟩;obtain⟨R',zS⟩:∃R':List Value,R'=[XJ v.sw,XJ v.now,XJ v.given,XJ v.births,T,P,L,XJ v.ph,Q,M,XJ v.top,XJ v.at_,XJ v.ro]:=⟨_,rfl⟩
  have eR:AK v S U T P L Q M=(XJ v.wd::XJ v.lim::S::U::R'):=by rw[zS];rfl
  have zA:(XJ v.wd::XJ v.lim::S::U::R').length=17:=by rw[zS];rfl
  have zJ:∀x∈(XJ v.wd::XJ v.lim::S::U::R'),x.oneCell'=true:=by
   obtain⟨a,h,_⟩:=zN.vra;rw[←eR,h];simp[AK,Value.oneCell']
  have yA:Hid (∀g∈CE S U T P L Q M rs,g<w2.heap.size):=zN.lts;have yS:Hid (∀ua uc,AK (Ic v l) (.slice ua l.length uc) XN T P L Q M=(XJ v.wd::XJ v.lim:: .slice ua l.length uc::XN::R')):=fun ua uc=>by rw[zS];rfl
  rw[eR];have z2:=zT.size;obtain⟨W3,zX⟩:∃Y,Y=(w2.alloc (.cells #[XK,XK,XN,XN,XK,XK,XK,XK,XN,XN,XN,XK,XN,XN,XK,XK,XK] 44)).setCells w2.heap.size 0 (XJ v.wd::XJ v.lim::S::U::R').toArray.toList:=⟨_,rfl⟩;have hb:=boxed (X:=w2) (cs:=(XJ v.wd::XJ v.lim::S::U::R')) (z:=z17) (T:=44) (by rw[zA];rfl);have e3:W3=(w2.alloc (.cells z17.toArray 44)).setCells w2.heap.size 0 (XJ v.wd::XJ v.lim::S::U::R'):=zX
  rw[←e3] at hb;obtain⟨x3,b3,z3⟩:=hb
  have zI:Hid ((w2.alloc (.cells #[XK,XK,XN,XN,XK,XK,XK,XK,XN,XN,XN,XK,XN,XN,XK,XK,XK] 44)).there w2.heap.size 0 (XJ v.wd::XJ v.lim::S::U::R').toArray.size/\(XJ v.wd::XJ v.lim::S::U::R').length=17/\∀x∈(XJ v.wd::XJ v.lim::S::U::R'),x.oneCell'=true):=⟨by rw[show(XJ v.wd::XJ v.lim::S::U::R').toArray.size=17 from by rw[List.size_toArray];exact zA];exact(Aa.new w2 z17 44).there,zA,zJ⟩
  have yE:Hid _:=zX;have zO:Below w1.heap.size w1 W3:=zT.trans (b3.mono zT.size);have yB:Hid (Aa W3 w.heap.size (a0::a1::s::t::R)):=Aa.below zY.o zO;have yD:Hid (Aa W3 (w.heap.size+1) z17):=Aa.below (v:=XK) zP.o zO;have zK:Hid (Xz w W3):=zE.o.trans (zO.mono zE.o.size);have yC:Hid (Aw W3 w1.heap.size S U T P L Q M rs v):=zN.below b3
  have zV:Hid (Aa W3 w2.heap.size (XJ v.wd::XJ v.lim::S::U::R')):=x3;clear zX e3 x3 b3 zO zN zT eR zA zJ zS zY zP HC;go_upto_region 4 with(refine wpList_store_mid rfl 44 _ _ rfl w2.heap.size 0 (XJ v.wd::XJ v.lim::S::U::R').toArray rfl rfl zI.o.1 (by rw[List.size_toArray,zI.o.2.1];kernel_rfl) (all_oneCell_toArray zI.o.2.2) ?_);rw[←yE.o];clear yE;obtain⟨y2,_⟩:=yB.o 2 _ rfl
  obtain⟨y3,_⟩:=yB.o 3 _ rfl;go_wp2_with fail;refine(HS.o zC.o W3 zK.o).mono ?_;rintro e w4 ⟨u,rfl,zZ,zB⟩;obtain⟨ua,uc,rfl,_⟩:=(Ar.own zZ).row;have z4:=zB.size;clear y2 y3 HS yB;obtain⟨W5,zR⟩:∃X,X=(w4.setCell (XL (w2.heap.size) 2) (.slice ua l.length uc)).setCell (XL (w2.heap.size) 3) XN:=⟨_,rfl⟩
  have t5:Tn [w2.heap.size] w4 W5:=by rw[zR];exact(Tn.set _ _ _ _ (by simp)).trans (Tn.set _ _ _ _ (by simp))
  have yN:Hid (Aa W5 w2.heap.size (XJ v.wd::XJ v.lim:: .slice ua l.length uc::XN::R')):=by
   show Aa W5 w2.heap.size (XJ v.wd::XJ v.lim:: .slice ua l.length uc::XN::R');rw[zR];exact((Aa.below zV.o zB).set 2 (.slice ua l.length uc)).set 3 XN
  have z5:=t5.size;have yK:Hid (Aa W5 (w.heap.size+1) z17):=Aa.same (Aa.below (v:=XK) yD.o zB) (t5.block _ (by omega) (by simp;omega));have zA:(XJ v.wd::XJ v.lim:: .slice ua l.length uc::XN::R').length=17:=by simpa using zI.o.2.1
  have zJ:∀x∈(XJ v.wd::XJ v.lim:: .slice ua l.length uc::XN::R'),x.oneCell'=true:=fun x hx=>by
   have h1:=zI.o.2.2 x;simp only[List.mem_cons] at hx h1;rcases hx with rfl|rfl|rfl|rfl|hx
   ·rfl
   ·rfl
   ·rfl
   ·rfl
   ·exact h1 (.inr (.inr (.inr (.inr hx))))
  obtain⟨W6,zM⟩:∃X,X=W5.setCells (w.heap.size+1) 0 (XJ v.wd::XJ v.lim:: .slice ua l.length uc::XN::R').toArray.toList:=⟨_,rfl⟩;have t6:Tn [(w.heap.size+1)] W5 W6:=by rw[zM];exact AL _ _ _ _
  have x6:Aa W6 (w.heap.size+1) (XJ v.wd::XJ v.lim:: .slice ua l.length uc::XN::R'):=by rw[zM];exact yK.o.setAll _ (by rw[zA];rfl)
  have t46:Tn [w2.heap.size,(w.heap.size+1)] w4 W6:=(t5.mono (by simp)).trans (t6.mono (by simp));have yF:Aw W6 w1.heap.size S U T P L Q M rs v:=(yC.o.below zB).stays t46 (fun g hg hin=>by have h1:=yC.o.lo g hin;have h2:=yA.o g hin;simp at hg;omega);have yJ:Ar W6 W3.heap.size (.slice ua l.length uc) l:=Ar.own (Bq zZ t46 (fun b hb=>by simp at hb;omega))
  have yQ:Hid (Aw W6 w.heap.size (.slice ua l.length uc) XN T P L Q M rs (Ic v l)):=(yF.flushed (n:=W3.heap.size) (fun g hg=>by have:=yA.o g hg;omega) yJ (by omega)).mono (by have:=zE.o.size;omega);have b4:Below w.heap.size w w4:=zK.o.trans (zB.mono zK.o.size);have yM:Hid (Xz w W6):=b4.trans (t46.below b4.size (fun b hb=>by simp at hb;omega))
  have zH:Hid (W5.there (w.heap.size+1) 0 (XJ v.wd::XJ v.lim:: .slice ua l.length uc::XN::R').toArray.size/\(XJ v.wd::XJ v.lim:: .slice ua l.length uc::XN::R').length=17/\∀x∈(XJ v.wd::XJ v.lim:: .slice ua l.length uc::XN::R'),x.oneCell'=true):=⟨by rw[show(XJ v.wd::XJ v.lim:: .slice ua l.length uc::XN::R').toArray.size=17 from by rw[List.size_toArray];exact zA];exact yK.o.there,zA,zJ⟩
  obtain⟨y2,f2⟩:=Aa.below zV.o zB 2 _ rfl;obtain⟨y3,f3⟩:=Aa.below zV.o zB 3 _ rfl;have yI:Hid _:=zR;have yL:Hid _:=zM;have yP:Hid _:=x6;clear zR zM x6 t5 t6 t46 yF yJ b4 zJ zA zZ zB zV yC yD zK yA;go_upto_region 5 with fail;rw[←yI.o];clear yI y2 y3 f2 f3;go_wp2_with (first
   |refine wpList_load_mid rfl 44 _ rfl w2.heap.size 0 rfl (XJ v.wd::XJ v.lim:: .slice ua l.length uc::XN::R') _ yN.o.range underlying44 rfl (by rw[zH.o.2.1];kernel_rfl) ?_
   |refine wpList_store_mid rfl 44 _ _ rfl (w.heap.size+1) 0 (XJ v.wd::XJ v.lim:: .slice ua l.length uc::XN::R').toArray rfl rfl zH.o.1 (by rw[List.size_toArray,zH.o.2.1];kernel_rfl) (all_oneCell_toArray zH.o.2.2) ?_)
  rw[←yL.o];refine bodyPost_ret (CG results39 _ _ (w.heap.size+1) (XJ v.wd::XJ v.lim:: .slice ua l.length uc::XN::R') _ rfl (Aa.range yP.o) underlying44 rfl (by rw[zH.o.2.1];kernel_rfl)) rfl ?_;exact⟨Ic v l,.slice ua l.length uc,XN,T,P,L,Q,M,rs,.inr ⟨zC.o,rfl⟩,by rw[yS.o],yQ.o,yM.o⟩
theorem Qm (v:Vd) (a0 a1 s t:Value) (R:List Value) (l:List ByteArray) (w:World) (hl:R.length=13)
 (hV:∀X,Xz w X->Calls prog 28 #[.agg (a0::a1::s::t::R).toArray] X fun e w'=>Ak (Cj v) X w' e)
 (hC:Cj v->∀X,Xz w X->Calls prog 78 #[.agg (a0::a1::s::t::R).toArray] X fun e w'=>∃(S U T P L Q M:Value) (rs:List Value),e=.returned (.agg (AK v S U T P L Q M).toArray)/\Aw w' X.heap.size S U T P L Q M rs v/\Xz X w')
 (hS:Cj v->∀X,Xz w X->Calls prog 79 #[.agg #[s,t]] X fun e w'=>∃u,e=.returned (.agg #[u,XN])/\w'.ownsRow X.heap.size 9 1 u l.length (l.map Value.string)/\Xz X w'):
 Calls prog 38 #[.agg (a0::a1::s::t::R).toArray] w fun e w'=>∃(u:Vd) (S U T P L Q M:Value) (rs:List Value),(¬Cj v/\u=v0∨Cj v/\u=Ic v l)/\e=.returned (.agg (AK u S U T P L Q M).toArray)/\Aw w' w.heap.size S U T P L Q M rs u/\Xz w w':=by
 obtain⟨W,hW⟩:∃W,W=(w.alloc (.cells (a0::a1::s::t::R).toArray 44)).alloc (.cells #[XK,XK,XN,XN,XK,XK,XK,XK,XN,XN,XN,XK,XN,XN,XK,XK,XK] 44):=⟨_,rfl⟩;have bW:=(AP hW).1;have zW:=(AP hW).2.1;have HX:Hid (Aa W w.heap.size (a0::a1::s::t::R)):=(AP hW).2.2.1;have HZ:Hid (Aa W (w.heap.size+1) z17):=(AP (k:=z17) hW).2.2.2
 have yH:Hid ((a0::a1::s::t::R).length=17):=by show(a0::a1::s::t::R).length=17;simp[hl]
 have HV:Hid _:=hV;have HC:Hid _:=hC;have HS:Hid _:=hS;have HW:Hid _:=hW;clear hW hV hC hS hl;go_enter func38,ntmps38;go_upto_region 1 with fail;rw[←HW.o];clear HW;go_wp2_with (refine wpList_load_mid rfl 44 _ rfl w.heap.size 0 rfl (a0::a1::s::t::R) _ HX.o.range underlying44 rfl (by rw[yH.o];kernel_rfl) ?_);refine(HV.o W bW).mono ?_;rintro e w1 ⟨o,rfl,ho,zF⟩;have z1:=zF.size
 have zY:Hid (Aa w1 w.heap.size (a0::a1::s::t::R)):=Aa.below HX.o zF;have zP:Hid (Aa w1 (w.heap.size+1) z17):=Aa.below (v:=XK) HZ.o zF;have zE:Hid (Xz w w1):=bW.trans (zF.mono bW.size);clear zF HV HX HZ bW;cases o with
 |false=>
  have yR:Hid (¬Cj v):=fun h=>by have:=ho.2 h;cases this
  clear ho HC HS;have zG:z17.toArray.all (·.oneCell')=true:=by simp[z17,Value.oneCell']
  have yG:Hid _:=And.intro zG zP.o.there;obtain⟨W9,zU⟩:∃X,X=w1.setCells (w.heap.size+1) 0 z17:=⟨_,rfl⟩;have x9:Aa W9 (w.heap.size+1) z17:=by rw[zU];exact zP.o.setAll _ rfl
  have b9:Below w.heap.size w W9:=zE.o.trans (by rw[zU];exact(AL _ _ _ _).below zE.o.size (by simp));have yO:Hid _:=zU;clear zG zU;go_wp2_with (refine wpList_store_mid rfl 44 _ _ rfl (w.heap.size+1) 0 #[XK,XK,XN,XN,XK,XK,XK,XK,XN,XN,XN,XK,XN,XN,XK,XK,XK] rfl rfl yG.o.2 (by kernel_rfl) yG.o.1 ?_);change bodyPost _ _ _ _ _ (w1.setCells (w.heap.size+1) 0 z17);rw[←yO.o]
  refine bodyPost_ret (CG results38 _ _ (w.heap.size+1) z17 _ rfl x9.range underlying44 rfl (by kernel_rfl)) rfl ?_;exact⟨v0,_,_,_,_,_,_,_,[],.inl ⟨yR.o,rfl⟩,rfl,Aw.nil _ _,b9⟩
 |true=>
  have zC:Hid (Cj v):=ho.1 rfl;clear ho;go_wp2_with (refine wpList_load_mid rfl 44 _ rfl w.heap.size 0 rfl (a0::a1::s::t::R) _ zY.o.range underlying44 rfl (by rw[yH.o];kernel_rfl) ?_);refine(HC.o zC.o w1 zE.o).mono ?_;rintro e w2 ⟨S,U,T,P,L,Q,M,rs,rfl,zN,zT⟩;obtain⟨R',zS⟩:∃R':List Value,R'=[XJ v.sw,XJ v.now,XJ v.given,XJ v.births,T,P,L,XJ v.ph,Q,M,XJ v.top,XJ v.at_,XJ v.ro]:=⟨_,rfl⟩
  have eR:AK v S U T P L Q M=(XJ v.wd::XJ v.lim::S::U::R'):=by rw[zS];rfl
  have zA:(XJ v.wd::XJ v.lim::S::U::R').length=17:=by rw[zS];rfl
  have zJ:∀x∈(XJ v.wd::XJ v.lim::S::U::R'),x.oneCell'=true:=by
   obtain⟨a,h,_⟩:=zN.vra;rw[←eR,h];simp[AK,Value.oneCell']
  have yA:Hid (∀g∈CE S U T P L Q M rs,g<w2.heap.size):=zN.lts;have yS:Hid (∀ua uc,AK (Ic v l) (.slice ua l.length uc) XN T P L Q M=(XJ v.wd::XJ v.lim:: .slice ua l.length uc::XN::R')):=fun ua uc=>by rw[zS];rfl
  rw[eR];have z2:=zT.size;obtain⟨W3,zX⟩:∃Y,Y=(w2.alloc (.cells #[XK,XK,XN,XN,XK,XK,XK,XK,XN,XN,XN,XK,XN,XN,XK,XK,XK] 44)).setCells w2.heap.size 0 (XJ v.wd::XJ v.lim::S::U::R').toArray.toList:=⟨_,rfl⟩;have hb:=boxed (X:=w2) (cs:=(XJ v.wd::XJ v.lim::S::U::R')) (z:=z17) (T:=44) (by rw[zA];rfl);have e3:W3=(w2.alloc (.cells z17.toArray 44)).setCells w2.heap.size 0 (XJ v.wd::XJ v.lim::S::U::R'):=zX
  rw[←e3] at hb;obtain⟨x3,b3,z3⟩:=hb
  have zI:Hid ((w2.alloc (.cells #[XK,XK,XN,XN,XK,XK,XK,XK,XN,XN,XN,XK,XN,XN,XK,XK,XK] 44)).there w2.heap.size 0 (XJ v.wd::XJ v.lim::S::U::R').toArray.size/\(XJ v.wd::XJ v.lim::S::U::R').length=17/\∀x∈(XJ v.wd::XJ v.lim::S::U::R'),x.oneCell'=true):=⟨by rw[show(XJ v.wd::XJ v.lim::S::U::R').toArray.size=17 from by rw[List.size_toArray];exact zA];exact(Aa.new w2 z17 44).there,zA,zJ⟩
  have yE:Hid _:=zX;have zO:Below w1.heap.size w1 W3:=zT.trans (b3.mono zT.size);have yB:Hid (Aa W3 w.heap.size (a0::a1::s::t::R)):=Aa.below zY.o zO;have yD:Hid (Aa W3 (w.heap.size+1) z17):=Aa.below (v:=XK) zP.o zO;have zK:Hid (Xz w W3):=zE.o.trans (zO.mono zE.o.size);have yC:Hid (Aw W3 w1.heap.size S U T P L Q M rs v):=zN.below b3
  have zV:Hid (Aa W3 w2.heap.size (XJ v.wd::XJ v.lim::S::U::R')):=x3;clear zX e3 x3 b3 zO zN zT eR zA zJ zS zY zP HC;go_upto_region 4 with(refine wpList_store_mid rfl 44 _ _ rfl w2.heap.size 0 (XJ v.wd::XJ v.lim::S::U::R').toArray rfl rfl zI.o.1 (by rw[List.size_toArray,zI.o.2.1];kernel_rfl) (all_oneCell_toArray zI.o.2.2) ?_);rw[←yE.o];clear yE;obtain⟨y2,_⟩:=yB.o 2 _ rfl
  obtain⟨y3,_⟩:=yB.o 3 _ rfl;go_wp2_with fail;refine(HS.o zC.o W3 zK.o).mono ?_;rintro e w4 ⟨u,rfl,zZ,zB⟩;obtain⟨ua,uc,rfl,_⟩:=(Ar.own zZ).row;have z4:=zB.size;clear y2 y3 HS yB;obtain⟨W5,zR⟩:∃X,X=(w4.setCell (XL (w2.heap.size) 2) (.slice ua l.length uc)).setCell (XL (w2.heap.size) 3) XN:=⟨_,rfl⟩
  have t5:Tn [w2.heap.size] w4 W5:=by rw[zR];exact(Tn.set _ _ _ _ (by simp)).trans (Tn.set _ _ _ _ (by simp))
  have yN:Hid (Aa W5 w2.heap.size (XJ v.wd::XJ v.lim:: .slice ua l.length uc::XN::R')):=by
   show Aa W5 w2.heap.size (XJ v.wd::XJ v.lim:: .slice ua l.length uc::XN::R');rw[zR];exact((Aa.below zV.o zB).set 2 (.slice ua l.length uc)).set 3 XN
  have z5:=t5.size;have yK:Hid (Aa W5 (w.heap.size+1) z17):=Aa.same (Aa.below (v:=XK) yD.o zB) (t5.block _ (by omega) (by simp;omega));have zA:(XJ v.wd::XJ v.lim:: .slice ua l.length uc::XN::R').length=17:=by simpa using zI.o.2.1
  have zJ:∀x∈(XJ v.wd::XJ v.lim:: .slice ua l.length uc::XN::R'),x.oneCell'=true:=fun x hx=>by
   have h1:=zI.o.2.2 x;simp only[List.mem_cons] at hx h1;rcases hx with rfl|rfl|rfl|rfl|hx
   ·rfl
   ·rfl
   ·rfl
   ·rfl
   ·exact h1 (.inr (.inr (.inr (.inr hx))))
  obtain⟨W6,zM⟩:∃X,X=W5.setCells (w.heap.size+1) 0 (XJ v.wd::XJ v.lim:: .slice ua l.length uc::XN::R').toArray.toList:=⟨_,rfl⟩;have t6:Tn [(w.heap.size+1)] W5 W6:=by rw[zM];exact AL _ _ _ _
  have x6:Aa W6 (w.heap.size+1) (XJ v.wd::XJ v.lim:: .slice ua l.length uc::XN::R'):=by rw[zM];exact yK.o.setAll _ (by rw[zA];rfl)
  have t46:Tn [w2.heap.size,(w.heap.size+1)] w4 W6:=(t5.mono (by simp)).trans (t6.mono (by simp));have yF:Aw W6 w1.heap.size S U T P L Q M rs v:=(yC.o.below zB).stays t46 (fun g hg hin=>by have h1:=yC.o.lo g hin;have h2:=yA.o g hin;simp at hg;omega);have yJ:Ar W6 W3.heap.size (.slice ua l.length uc) l:=Ar.own (Bq zZ t46 (fun b hb=>by simp at hb;omega))
  have yQ:Hid (Aw W6 w.heap.size (.slice ua l.length uc) XN T P L Q M rs (Ic v l)):=(yF.flushed (n:=W3.heap.size) (fun g hg=>by have:=yA.o g hg;omega) yJ (by omega)).mono (by have:=zE.o.size;omega);have b4:Below w.heap.size w w4:=zK.o.trans (zB.mono zK.o.size);have yM:Hid (Xz w W6):=b4.trans (t46.below b4.size (fun b hb=>by simp at hb;omega))
  have zH:Hid (W5.there (w.heap.size+1) 0 (XJ v.wd::XJ v.lim:: .slice ua l.length uc::XN::R').toArray.size/\(XJ v.wd::XJ v.lim:: .slice ua l.length uc::XN::R').length=17/\∀x∈(XJ v.wd::XJ v.lim:: .slice ua l.length uc::XN::R'),x.oneCell'=true):=⟨by rw[show(XJ v.wd::XJ v.lim:: .slice ua l.length uc::XN::R').toArray.size=17 from by rw[List.size_toArray];exact zA];exact yK.o.there,zA,zJ⟩
  obtain⟨y2,f2⟩:=Aa.below zV.o zB 2 _ rfl;obtain⟨y3,f3⟩:=Aa.below zV.o zB 3 _ rfl;have yI:Hid _:=zR;have yL:Hid _:=zM;have yP:Hid _:=x6;clear zR zM x6 t5 t6 t46 yF yJ b4 zJ zA zZ zB zV yC yD zK yA;go_upto_region 5 with fail;rw[←yI.o];clear yI y2 y3 f2 f3;go_wp2_with (first
   |refine wpList_load_mid rfl 44 _ rfl w2.heap.size 0 rfl (XJ v.wd::XJ v.lim:: .slice ua l.length uc::XN::R') _ yN.o.range underlying44 rfl (by rw[zH.o.2.1];kernel_rfl) ?_
   |refine wpList_store_mid rfl 44 _ _ rfl (w.heap.size+1) 0 (XJ v.wd::XJ v.lim:: .slice ua l.length uc::XN::R').toArray rfl rfl zH.o.1 (by rw[List.size_toArray,zH.o.2.1];kernel_rfl) (all_oneCell_toArray zH.o.2.2) ?_)
  rw[←yL.o];refine bodyPost_ret (CG results38 _ _ (w.heap.size+1) (XJ v.wd::XJ v.lim:: .slice ua l.length uc::XN::R') _ rfl (Aa.range yP.o) underlying44 rfl (by rw[zH.o.2.1];kernel_rfl)) rfl ?_;exact⟨Ic v l,.slice ua l.length uc,XN,T,P,L,Q,M,rs,.inr ⟨zC.o,rfl⟩,by rw[yS.o],yQ.o,yM.o⟩
end Go.Proofs.YtpekbmegopfhfaaGreatDoor
