import Derived.Test.YtflhhhnlhlaehaaGreatDoorC23
set_option maxRecDepth 100000
set_option maxHeartbeats 16000000
namespace Go.Proofs.YtflhhhnlhlaehaaGreatDoor
open Go.ChangeShapes Go.WideShapes Go.ChangeAt Go.RowKit _root_.Go.Proofs.Tryz
def dL (d:Dd) (vs:List Value):List Value:=.int .i64 d.c::(vs++[.string d.s,.int .i64 d.n,.string d.a,.string d.b])
theorem SP {X:World} {b:Nat} {d:Dd} {vs:List Value} (h:Aa X b (dL d vs)) (hl:vs.length=17):X.cell? ⟨b,0,none⟩=some (.int .i64 d.c)/\X.cell? ⟨b,18,none⟩=some (.string d.s)/\X.cell? ⟨b,19,none⟩=some (.int .i64 d.n)/\X.cell? ⟨b,20,none⟩=some (.string d.a)/\X.cell? ⟨b,21,none⟩=some (.string d.b)/\X.rangeAt b 1 vs:=by
 have e:∀j u,[Value.string d.s,.int .i64 d.n,.string d.a,.string d.b][j]?=some u->X.cell? ⟨b,18+j,none⟩=some u:=fun j u hu=>(h (18+j) u (by
  unfold dL;rw[show 18+j=(17+j)+1 by omega,List.getElem?_cons_succ,List.getElem?_append_right (by omega),hl,show 17+j -17=j by omega];exact hu)).1
 exact⟨(h 0 _ rfl).1,e 0 _ rfl,e 1 _ rfl,e 2 _ rfl,e 3 _ rfl,Aa.mid [.int .i64 d.c] vs _ h⟩
theorem So {d:Dd} {vs:List Value} (h:vs.length=17/\∀u∈vs,u.oneCell'=true):(dL d vs).length=22/\∀u∈dL d vs,u.oneCell'=true:=by
 refine⟨by simp[dL,h.1],fun u hu=> ?_⟩;simp only[dL,List.mem_cons,List.mem_append,List.not_mem_nil,or_false] at hu;rcases hu with rfl|hu|rfl|rfl|rfl|rfl
 ·rfl
 ·exact h.2 u hu
 ·rfl
 ·rfl
 ·rfl
 ·rfl
def FX (v:Vd) (e:Ed) (w:World) (o:Ending) (w':World):Prop:=
 ∃d S U T P L Q M rs,OH v e d/\o=.returned (.agg (GN d S U T P L Q M).toArray)/\AV w' w.heap.size S U T P L Q M rs d.v/\Uq w w'
def Np (v:Vd) (e:Ed) (lo:Nat) (w:World) (o:Ending) (w':World):Prop:=
 Below lo w w'/\((∃c p q,GM v e c p q/\o=.returned (.agg #[.int .i64 c,.int .i64 0,.int .i64 0,.slice none 0 0,.slice none 0 0,.int .i64 0,.int .i64 0,.int .i64 0,.int .i64 0,.slice none 0 0,.slice none 0 0,.slice none 0 0,.int .i64 0,.slice none 0 0,.slice none 0 0,.int .i64 0,.int .i64 0,.int .i64 0,.string ⟨#[]⟩,.int .i64 0,.string p,.string q]))∨(∃r S U T P L Q M rs,Ig v e r/\o=.returned (.agg (GN (dyes v e r) S U T P L Q M).toArray)/\AV w' lo S U T P L Q M rs (doV v e r)))
theorem Ju {X:World} {base:Nat} {S U T P L Q M:Value} {rs:List Value} {d:Dd} (h:AV X base S U T P L Q M rs d.v):(GN d S U T P L Q M).length=22/\∀u∈GN d S U T P L Q M,u.oneCell'=true:=by
 obtain⟨a,h,_⟩:=h.vra;exact So (vs:=Dx d.v S U T P L Q M) ⟨rfl,by rw[h];simp[Dx,Value.oneCell']⟩
theorem Np.form {v:Vd} {e:Ed} {lo:Nat} {w w':World} {o:Ending} (h:Np v e lo w o w'):Below lo w w'/\∃(c:Int) (zs tl:List Value),o=.returned (.agg (.int .i64 c::(zs++tl)).toArray)/\zs.length=17/\tl.length=4/\(∀u∈.int .i64 c::(zs++tl),u.oneCell'=true)/\((∃p q,GM v e c p q/\tl=[.string ⟨#[]⟩,.int .i64 0,.string p,.string q])∨(c=0/\∃r S U T P L Q M rs,Ig v e r/\ .int .i64 c::(zs++tl)=GN (dyes v e r) S U T P L Q M/\AV w' lo S U T P L Q M rs (doV v e r))):=by
 obtain⟨hb,⟨c,p,q,h,rfl⟩|⟨r,S,U,T,P,L,Q,M,rs,h,rfl,ha⟩⟩:=h
 ·exact⟨hb,c,[.int .i64 0,.int .i64 0,.slice none 0 0,.slice none 0 0,.int .i64 0,.int .i64 0,.int .i64 0,.int .i64 0,.slice none 0 0,.slice none 0 0,.slice none 0 0,.int .i64 0,.slice none 0 0,.slice none 0 0,.int .i64 0,.int .i64 0,.int .i64 0],[.string ⟨#[]⟩,.int .i64 0,.string p,.string q],rfl,rfl,rfl,by simp[Value.oneCell'],.inl ⟨p,q,h,rfl⟩⟩
 ·exact⟨hb,0,Dx (doV v e r) S U T P L Q M,[.string r.sm,.int .i64 r.le,.string ⟨#[]⟩,.string ⟨#[]⟩],rfl,rfl,rfl,(Ju (d:=dyes v e r) ha).2,.inr ⟨rfl,r,S,U,T,P,L,Q,M,rs,h,rfl,ha⟩⟩
theorem ON (v:Vd) (e:Ed) (a0:Value) (A':List Value) (gf:Nat) (rv:Value) (ra:Option Addr) (rc:Nat) (Dk:Nat->Nat->World->Prop) (w:World) (hl:(a0::A').length=17)
 (eg:∀args X,(callFunc gf args).run prog X=.ok (.enter gf args) X)
 (hD:∀X,Uq w X->Calls prog 31 #[.agg (a0::A').toArray] X fun o X'=>Uq X X'/\((¬Fo v/\o=.returned (.tuple #[.pointer none,.bool false]))∨(Fo v/\∃k,o=.returned (.tuple #[.pointer (some ⟨k,0,none⟩),.bool true])/\Dk X.heap.size k X')))
 (hM:∀X,Uq w X->Calls prog gf #[rv] X fun o X'=>o=.returned (.agg #[.int .i64 e.kd,.string e.s,.string e.nm,.int .i64 e.num,.string e.tx,.slice ra e.rf.length rc])/\Uq X X')
 (yV:∀lo k X X',Dk lo k X->Uq X X'->Dk lo k X')
 (hK:∀lo k X,w.heap.size<=lo->Fo v->Dk lo k X->Uq w X->Calls prog 45 #[.pointer (some ⟨k,0,none⟩),.agg #[.int .i64 e.kd,.string e.s,.string e.nm,.int .i64 e.num,.string e.tx,.slice ra e.rf.length rc]] X (Np v e lo X))
 (hC:Fo v->∀X,Uq w X->Calls prog 46 #[.agg (a0::A').toArray] X fun o X'=>∃(S U T P L Q M:Value) (rs:List Value),o=.returned (.agg (Dx v S U T P L Q M).toArray)/\AV X' X.heap.size S U T P L Q M rs v/\Uq X X'):
 Calls prog 24 #[.agg (a0::A').toArray,.func (.func gf) #[rv] #[]] w (FX v e w):=by
 obtain⟨W,hW⟩:∃W,W=(w.alloc (.cells (a0::A').toArray 36)).alloc (.cells #[.int .i64 0,.int .i64 0,.int .i64 0,.slice none 0 0,.slice none 0 0,.int .i64 0,.int .i64 0,.int .i64 0,.int .i64 0,.slice none 0 0,.slice none 0 0,.slice none 0 0,.int .i64 0,.slice none 0 0,.slice none 0 0,.int .i64 0,.int .i64 0,.int .i64 0,.string ⟨#[]⟩,.int .i64 0,.string ⟨#[]⟩,.string ⟨#[]⟩] 42):=⟨_,rfl⟩
 have bW:=(Ba hW).1;have zW:=(Ba hW).2.1;have HX:Hid (Aa W w.heap.size (a0::A')/\Aa W (w.heap.size+1) Cs):=⟨(Ba hW).2.2.1,(Ba (k:=Cs) hW).2.2.2⟩;have HB:Hid _:=bW;have yR:Hid ((a0::A').length=17):=hl;have HD:Hid _:=hD;have HM:Hid _:=hM;have yG:Hid _:=yV;have HK:Hid _:=hK;have HC:Hid _:=hC;have HW:Hid _:=hW;clear hW hD hM yV hK hC hl bW;go_enter func24,ntmps24;go_upto_region 1 with fail;rw[←HW.o]
 clear HW;go_wp2_with (refine wpList_load_mid rfl 36 _ rfl w.heap.size 0 rfl (a0::A') _ HX.o.1.range underlying36 rfl (by rw[yR.o];kernel_rfl) ?_);refine(HD.o W HB.o).mono ?_;rintro o w1 ⟨zF,⟨yY,rfl⟩|⟨zY,k,rfl,yX⟩⟩
 ·have b1:=HB.o.trans (zF.mono HB.o.size)
  have x1:=Aa.below (v:=.int .i64 0) HX.o.2 zF
  obtain⟨W9,zA⟩:∃Y,Y=w1.setCells (w.heap.size+1) 0 [.int .i64 1,.int .i64 0,.int .i64 0,.slice none 0 0,.slice none 0 0,.int .i64 0,.int .i64 0,.int .i64 0,.int .i64 0,.slice none 0 0,.slice none 0 0,.slice none 0 0,.int .i64 0,.slice none 0 0,.slice none 0 0,.int .i64 0,.int .i64 0,.int .i64 0,.string ⟨#[]⟩,.int .i64 0,.string ⟨#[]⟩,.string ⟨#[]⟩]:=⟨_,rfl⟩
  have x9:Aa W9 (w.heap.size+1) [.int .i64 1,.int .i64 0,.int .i64 0,.slice none 0 0,.slice none 0 0,.int .i64 0,.int .i64 0,.int .i64 0,.int .i64 0,.slice none 0 0,.slice none 0 0,.slice none 0 0,.int .i64 0,.slice none 0 0,.slice none 0 0,.int .i64 0,.int .i64 0,.int .i64 0,.string ⟨#[]⟩,.int .i64 0,.string ⟨#[]⟩,.string ⟨#[]⟩]:=by rw[zA];exact x1.setAll _ rfl
  have xA:Hid (Uq w W9):=b1.trans (by rw[zA];exact(AB _ _ _ _).below b1.size (by simp))
  have yP:Hid _:=And.intro (show(#[.int .i64 1,.int .i64 0,.int .i64 0,.slice none 0 0,.slice none 0 0,.int .i64 0,.int .i64 0,.int .i64 0,.int .i64 0,.slice none 0 0,.slice none 0 0,.slice none 0 0,.int .i64 0,.slice none 0 0,.slice none 0 0,.int .i64 0,.int .i64 0,.int .i64 0,.string ⟨#[]⟩,.int .i64 0,.string ⟨#[]⟩,.string ⟨#[]⟩]:Array Value).all (·.oneCell')=true by simp[Value.oneCell']) x1.there
  have zO:Hid _:=x9;have yB:Hid _:=yY;have zN:Hid _:=zA;clear zA x9 yY x1 b1 HD HM yG HK HC HX HB zF
  go_wp2_with (refine wpList_store_mid rfl 42 _ _ rfl (w.heap.size+1) 0 #[.int .i64 1,.int .i64 0,.int .i64 0,.slice none 0 0,.slice none 0 0,.int .i64 0,.int .i64 0,.int .i64 0,.int .i64 0,.slice none 0 0,.slice none 0 0,.slice none 0 0,.int .i64 0,.slice none 0 0,.slice none 0 0,.int .i64 0,.int .i64 0,.int .i64 0,.string ⟨#[]⟩,.int .i64 0,.string ⟨#[]⟩,.string ⟨#[]⟩] rfl rfl yP.o.2 (by kernel_rfl) yP.o.1 ?_)
  rw[←zN.o]
  refine bodyPost_ret (Co results24 _ _ (w.heap.size+1) [.int .i64 1,.int .i64 0,.int .i64 0,.slice none 0 0,.slice none 0 0,.int .i64 0,.int .i64 0,.int .i64 0,.int .i64 0,.slice none 0 0,.slice none 0 0,.slice none 0 0,.int .i64 0,.slice none 0 0,.slice none 0 0,.int .i64 0,.int .i64 0,.int .i64 0,.string ⟨#[]⟩,.int .i64 0,.string ⟨#[]⟩,.string ⟨#[]⟩] _ rfl (Aa.range zO.o) underlying42 rfl (by kernel_rfl)) rfl ?_
  exact⟨Qy 1 v0 ⟨#[]⟩ ⟨#[]⟩,.slice none 0 0,.slice none 0 0,.slice none 0 0,.slice none 0 0,.slice none 0 0,.slice none 0 0,.slice none 0 0,[],.inl ⟨yB.o,rfl⟩,rfl,AV.nil _ _,xA.o⟩
 ·have z1:=zF.size
  have yI:Hid (Aa w1 w.heap.size (a0::A')/\Aa w1 (w.heap.size+1) Cs):=⟨Aa.below HX.o.1 zF,Aa.below (v:=.int .i64 0) HX.o.2 zF⟩;have zZ:Hid (Uq w w1):=HB.o.trans (zF.mono HB.o.size);have HY:Hid _:=zY;have zM:Hid _:=yX;clear zF zY yX HX HD;go_wp2_with fail;refine(HM.o w1 zZ.o).mono ?_;rintro o w2 ⟨rfl,zL⟩;have z2:=zL.size
  have yJ:Hid (Aa w2 w.heap.size (a0::A')/\Aa w2 (w.heap.size+1) Cs):=⟨Aa.below yI.o.1 zL,Aa.below (v:=.int .i64 0) yI.o.2 zL⟩;have yF:Hid (Uq w w2):=zZ.o.trans (zL.mono zZ.o.size);have yQ:Hid _:=HK.o W.heap.size k w2 HB.o.size HY.o (yG.o _ _ _ _ zM.o zL) yF.o;clear zL HM yG zM HK yI zZ;go_wp2_with fail;refine Calls.mono yQ.o ?_;intro o w3 zR;obtain⟨zS,c,zs,tl,rfl,yN,zU,zK,zG⟩:=zR.form
  have z3:=zS.size;obtain⟨D,zQ⟩:∃D:List Value,D=.int .i64 c::(zs++tl):=⟨_,rfl⟩;have zE:D.length=22:=by rw[zQ];simp[yN,zU]
  have yU:D[0]?=some (.int .i64 c):=by rw[zQ];rfl
  rw[←zQ] at zK ⊢
  obtain⟨W4,yL⟩:∃Y,Y=(w3.alloc (.cells #[.int .i64 0,.int .i64 0,.int .i64 0,.slice none 0 0,.slice none 0 0,.int .i64 0,.int .i64 0,.int .i64 0,.int .i64 0,.slice none 0 0,.slice none 0 0,.slice none 0 0,.int .i64 0,.slice none 0 0,.slice none 0 0,.int .i64 0,.int .i64 0,.int .i64 0,.string ⟨#[]⟩,.int .i64 0,.string ⟨#[]⟩,.string ⟨#[]⟩] 42)).setCells w3.heap.size 0 D.toArray.toList:=⟨_,rfl⟩
  have hb:=boxed (X:=w3) (cs:=D) (z:=Cs) (T:=42) (by rw[zE];rfl);have e4:W4=(w3.alloc (.cells Cs.toArray 42)).setCells w3.heap.size 0 D:=yL;rw[←e4] at hb;obtain⟨x4,b4,z4⟩:=hb
  have zC:Hid ((w3.alloc (.cells #[.int .i64 0,.int .i64 0,.int .i64 0,.slice none 0 0,.slice none 0 0,.int .i64 0,.int .i64 0,.int .i64 0,.int .i64 0,.slice none 0 0,.slice none 0 0,.slice none 0 0,.int .i64 0,.slice none 0 0,.slice none 0 0,.int .i64 0,.int .i64 0,.int .i64 0,.string ⟨#[]⟩,.int .i64 0,.string ⟨#[]⟩,.string ⟨#[]⟩] 42)).there w3.heap.size 0 D.toArray.size/\D.length=22/\∀x∈D,x.oneCell'=true):=⟨by rw[show D.toArray.size=22 from by rw[List.size_toArray];exact zE];exact(Aa.new w3 Cs 42).there,zE,zK⟩
  have yK:Hid (Aa w3 w.heap.size (a0::A')/\Aa w3 (w.heap.size+1) Cs):=⟨Aa.same yJ.o.1 (zS.block _ (by omega)),Aa.same yJ.o.2 (zS.block _ (by omega))⟩;have zJ:Hid (Aa W4 w.heap.size (a0::A')/\Aa W4 (w.heap.size+1) Cs/\Aa W4 w3.heap.size D):=⟨Aa.below yK.o.1 b4,Aa.below (v:=.int .i64 0) yK.o.2 b4,x4⟩;have b3:Below w.heap.size w w3:=yF.o.trans (zS.mono HB.o.size)
  have zB:Hid (Uq w W4/\Uq w3 W4/\w.heap.size+2<=w3.heap.size):=⟨b3.trans (b4.mono b3.size),b4,by omega⟩;obtain⟨u0,_⟩:=x4 0 _ yU;have zD:Hid _:=And.intro zQ (And.intro yN zU);have yA:Hid _:=zG;have yS:Hid _:=yL;have xD:W.heap.size=w.heap.size+2:=zW;clear yL e4 x4 b4 b3 zR zS zQ zE yU yN zU zK zG yJ yK yF yQ
  go_upto_region 5 with(refine wpList_store_mid rfl 42 _ _ rfl w3.heap.size 0 D.toArray rfl rfl zC.o.1 (by rw[List.size_toArray,zC.o.2.1];kernel_rfl) (all_oneCell_toArray zC.o.2.2) ?_);rw[←yS.o];clear yS;by_cases hc:c=0
  ·subst hc
   obtain⟨W9,zA⟩:∃Y,Y=W4.setCells (w.heap.size+1) 0 D.toArray.toList:=⟨_,rfl⟩;have t9:Tn [w.heap.size+1] W4 W9:=by rw[zA];exact AB _ _ _ _
   have x9:Aa W9 (w.heap.size+1) D:=by rw[zA];exact zJ.o.2.1.setAll D (by rw[zC.o.2.1];rfl)
   have zI:Hid (W4.there (w.heap.size+1) 0 D.toArray.size):=by
    show W4.there (w.heap.size+1) 0 D.toArray.size;rw[show D.toArray.size=22 from by rw[List.size_toArray];exact zC.o.2.1];exact zJ.o.2.1.there
   have zH:Hid (FX v e w (.returned (.agg D.toArray)) W9):=by
    rcases yA.o with⟨p,q,hn,_⟩|⟨_,r,S,U,T,P,L,Q,M,rs,hy,hd,ha⟩
    ·exact absurd rfl hn.code
    ·refine⟨dyes v e r,S,U,T,P,L,Q,M,rs,.inr ⟨HY.o,.inr ⟨r,hy,rfl⟩⟩,by rw[zD.o.1,hd],?_,zB.o.1.trans (t9.below zB.o.1.size (by simp))⟩
     exact((ha.below zB.o.2.1).stays t9 (fun b hb hin=>by have:=(ha.below zB.o.2.1).lo b hin;simp at hb;omega)).mono (by omega)
   have zO:Hid _:=x9;have zN:Hid _:=zA;clear zA t9 x9 yA zD HC HY;go_wp2_with (first
    |refine wpList_load_mid rfl 42 _ rfl w3.heap.size 0 rfl D _ zJ.o.2.2.range underlying42 rfl (by rw[zC.o.2.1];kernel_rfl) ?_
    |refine wpList_store_mid rfl 42 _ _ rfl (w.heap.size+1) 0 D.toArray rfl rfl zI.o (by rw[List.size_toArray,zC.o.2.1];kernel_rfl) (all_oneCell_toArray zC.o.2.2) ?_)
   rw[←zN.o];exact bodyPost_ret (Co results24 _ _ (w.heap.size+1) D _ rfl (Aa.range zO.o) underlying42 rfl (by rw[zC.o.2.1];kernel_rfl)) rfl zH.o
  ·have xC:(c==0)=false:=by simpa using hc
   have yB:Hid (∃p q,GM v e c p q/\tl=[.string ⟨#[]⟩,.int .i64 0,.string p,.string q]):=by
    rcases yA.o with h|⟨h,_⟩
    ·exact h
    ·exact absurd h hc
   clear hc yA;go_wp2_with (refine wpList_load_mid rfl 36 _ rfl w.heap.size 0 rfl (a0::A') _ zJ.o.1.range underlying36 rfl (by rw[yR.o];kernel_rfl) ?_);refine(HC.o HY.o W4 zB.o.1).mono ?_;rintro o w5 ⟨S,U,T,P,L,Q,M,rs,rfl,yD,zT⟩;have z5:=zT.size;obtain⟨vs,zX⟩:∃vs,vs=Dx v S U T P L Q M:=⟨_,rfl⟩;have zV:vs.length=17:=by rw[zX];rfl
   have yM:∀u∈vs,u.oneCell'=true:=by
    obtain⟨a,h,_⟩:=yD.vra;rw[zX,h];simp[Dx,Value.oneCell']
   rw[←zX];have x5:Aa w5 w3.heap.size ([.int .i64 c]++(zs++tl)):=by have h:=zJ.o.2.2;rw[zD.o.1] at h;exact Aa.below h zT
   obtain⟨W6,yC⟩:∃Y,Y=w5.setCells w3.heap.size 1 vs.toArray.toList:=⟨_,rfl⟩;have t6:Tn [w3.heap.size] w5 W6:=by rw[yC];exact AB _ _ _ _
   have x6:Aa W6 w3.heap.size (.int .i64 c::(vs++tl)):=by rw[yC];exact Aa.setMid vs [.int .i64 c] zs tl w5 x5 (by rw[zV,zD.o.2.1])
   have yZ:w5.there w3.heap.size 1 vs.toArray.size:=fun j hj=>by
    rw[List.size_toArray,zV] at hj;have h1:=x5 (1+j) _ (Uu (by simp[zD.o.2.1,zD.o.2.2];omega));exact⟨by rw[h1.1];rfl,h1.2⟩
   have yH:Hid (w5.there w3.heap.size 1 vs.toArray.size/\vs.length=17/\∀u∈vs,u.oneCell'=true):=⟨yZ,zV,yM⟩;obtain⟨D',zP⟩:∃D':List Value,D'=.int .i64 c::(vs++tl):=⟨_,rfl⟩;have zE:D'.length=22:=by rw[zP];simp[zV,zD.o.2.2]
   have yW:∀u∈D',u.oneCell'=true:=fun u hu=>by
    have h1:=zC.o.2.2 u;rw[zD.o.1] at h1;rw[zP] at hu;simp only[List.mem_cons,List.mem_append] at hu h1;rcases hu with rfl|hu|hu
    ·rfl
    ·exact yM u hu
    ·exact h1 (.inr (.inr hu))
   rw[←zP] at x6;have yO:=Aa.below (v:=.int .i64 0) zJ.o.2.1 zT;have yE:Aa W6 (w.heap.size+1) Cs:=Aa.same yO (t6.block _ yO.lt (by have:=zB.o.2.2;simp;omega));have xB:Hid (Aa W6 w3.heap.size D'/\Aa W6 (w.heap.size+1) Cs):=⟨x6,yE⟩;obtain⟨W9,zA⟩:∃Y,Y=W6.setCells (w.heap.size+1) 0 D'.toArray.toList:=⟨_,rfl⟩;have t9:Tn [w.heap.size+1] W6 W9:=by rw[zA];exact AB _ _ _ _
   have x9:Aa W9 (w.heap.size+1) D':=by rw[zA];exact yE.setAll D' (by rw[zE];rfl)
   have zI:Hid (W6.there (w.heap.size+1) 0 D'.toArray.size/\D'.length=22/\∀u∈D',u.oneCell'=true):=⟨by rw[show D'.toArray.size=22 from by rw[List.size_toArray];exact zE];exact yE.there,zE,yW⟩;have t59:Tn [w3.heap.size,w.heap.size+1] w5 W9:=(t6.mono (by simp)).trans (t9.mono (by simp));have zH:Hid (FX v e w (.returned (.agg D'.toArray)) W9):=by
    obtain⟨p,q,hn,zU⟩:=yB.o;have hb:=zB.o.1.trans (zT.mono zB.o.1.size);refine⟨Qy c v p q,S,U,T,P,L,Q,M,rs,.inr ⟨HY.o,.inl ⟨c,p,q,hn,rfl⟩⟩,by rw[zP,zU,zX];rfl,?_,hb.trans (t59.below hb.size (by have:=zB.o.2.2;simp;omega))⟩;exact(yD.stays t59 (fun b hb hin=>by have:=yD.lo b hin;have:=zB.o.2.2;have:=zB.o.2.1.size;simp at hb;omega)).mono zB.o.1.size
   have zO:Hid _:=x9;have yT:Hid _:=yC;have zN:Hid _:=zA;clear yC zA t6 t9 t59 x5 x6 x9 yO yE yZ zV yM zX zP zE yW yD zT yB zD HC HY zJ zC;go_upto_region 7 with(refine wpList_store_mid rfl 36 _ _ rfl w3.heap.size 1 vs.toArray rfl rfl yH.o.1 (by rw[List.size_toArray,yH.o.2.1];kernel_rfl) (all_oneCell_toArray yH.o.2.2) ?_);rw[←yT.o];clear yT;go_wp2_with (first
    |refine wpList_load_mid rfl 42 _ rfl w3.heap.size 0 rfl D' _ xB.o.1.range underlying42 rfl (by rw[zI.o.2.1];kernel_rfl) ?_
    |refine wpList_store_mid rfl 42 _ _ rfl (w.heap.size+1) 0 D'.toArray rfl rfl zI.o.1 (by rw[List.size_toArray,zI.o.2.1];kernel_rfl) (all_oneCell_toArray zI.o.2.2) ?_)
   rw[←zN.o];exact bodyPost_ret (Co results24 _ _ (w.heap.size+1) D' _ rfl (Aa.range zO.o) underlying42 rfl (by rw[zI.o.2.1];kernel_rfl)) rfl zH.o
theorem OO {T e:TypeId} {B b:Nat} {bs:List Value} {w w':World} (h:Lib.IsBuilder T e B b bs w) (hb:Uq w w'):Lib.IsBuilder T e B b bs w':=by
 have key:∀p,Lib.BuilderAt T e B b p bs w->Lib.BuilderAt T e B b p bs w':=by
  rintro p ⟨hB,v,zB,zA,zD⟩;have zC:b<w.heap.size:=(Array.getElem?_eq_some_iff.1 zB).1;exact⟨hB,v,(hb.block b zC).trans zB,zA.kept (row:=none) ⟨hb.os,hb.tape,hb.output,hb.size,fun k hk _=>hb.block k hk⟩ (by cases hv:v.ownBlock<;>simp),zD⟩
 rcases h with h|h
 ·exact .inl (key _ h)
 ·exact .inr (key _ h)
theorem PX (k n m:Int) (zA:0<=n) (hn:n<=1000000000) (j:Nat) (hj:j<4):
 Lib.byteCells ((Bz k n m).take (1+j))++[Value.int .u8 (n/2^(8 *(3 -j))%256)]=Lib.byteCells ((Bz k n m).take (1+(j+1))):=by
 rw[Jc (n/2^(8 *(3 -j))%256) (by omega) (by omega)]
 match j,hj with
 |0,_=>
  have:n/2^(8 *(3 -0))%256=n/16777216:=by
   show n/16777216%256=n/16777216;omega
  rw[this];rfl
 |1,_=>rfl
 |2,_=>rfl
 |3,_=>
  have:n/2^(8 *(3 -3))%256=n%256:=by
   show n/1%256=n%256;omega
  rw[this];rfl
theorem PY (k n m:Int) (zA:0<=m) (hm:m<256):Lib.byteCells ((Bz k n m).take (1+4))++[Value.int .u8 m]=Lib.byteCells (Bz k n m):=by
 rw[Jc m zA hm];rfl
theorem GO (k n m:Int) (j:Nat):(Lib.byteCells ((Bz k n m).take j)).length<=6:=by
 rw[Lib.byteCells_length];have:(Bz k n m).length=6:=rfl;simp[this];omega
theorem OP (k:Nat) (sum name:ByteArray) (n:Int) (t:ByteArray) (ad:Option Addr) (cap:Nat) (ss:List ByteArray) (wd:Int) (w:World) (hT:Gl w) (h1:1<=k) (h7:k<=7)
 (zM:Ad w w.heap.size ad ss) (hl:ss.length<=1048576) (ht:t.size<=maxLen) (zW:Ct k sum name n t ss wd=true):
 Calls prog 66 #[.agg (Gm k sum name n t ad ss.length cap),.int .i64 wd] w fun e w'=>e=.returned (.string ⟨(DS k sum name n t ss).toArray⟩)/\Uq w w':=by
 have hp:=DA zW;obtain⟨xD,xE,yW,yM,yT,yU,zX⟩:=hp;have zT:Below w.heap.size w (w.alloc (.cells (Gm k sum name n t ad ss.length cap) 92)):=Ur;go_enter func66,ntmps66;go_wp2_with fail;refine(Ik k sum name n t ad cap ss wd _ (hT.below zT) h1 h7 (zM.below' zT) hl ht (by unfold maxLen;omega)).mono ?_;rintro e w1 ⟨rfl,zG⟩;rw[zW];have hz:=zG.size;simp at hz;have zC:w.heap.size<w1.heap.size:=by omega
 have zI:=zT.trans (zG.mono (by simp));have x0:w1.cell? ⟨w.heap.size,0,none⟩=some (.int .i64 k):=by rw[zG.cell (p:=⟨w.heap.size,0,none⟩) (by simp)];simp
 have x1:w1.cell? ⟨w.heap.size,1,none⟩=some (.string sum):=by rw[zG.cell (p:=⟨w.heap.size,1,none⟩) (by simp)];simp
 have x2:w1.cell? ⟨w.heap.size,2,none⟩=some (.string name):=by rw[zG.cell (p:=⟨w.heap.size,2,none⟩) (by simp)];simp
 have x3:w1.cell? ⟨w.heap.size,3,none⟩=some (.int .i64 n):=by rw[zG.cell (p:=⟨w.heap.size,3,none⟩) (by simp)];simp
 have x4:w1.cell? ⟨w.heap.size,4,none⟩=some (.string t):=by rw[zG.cell (p:=⟨w.heap.size,4,none⟩) (by simp)];simp
 have x5:w1.cell? ⟨w.heap.size,5,none⟩=some (.slice ad ss.length cap):=by rw[zG.cell (p:=⟨w.heap.size,5,none⟩) (by simp)];simp
 have zQ:=zM.below zI;have yP:Hid _:=zW;clear zW zX zM zG zT;have zJ:=Lib.fresh_isBuilder 192 5 w1;have yH:Below w1.heap.size w1 (w1.alloc (.cells #[.pointer none,.slice none 0 0] 192)):=Ur;go_wp2_with fail;refine(DE w1.heap.size w1.heap.size [] _ _ zJ (by simp) (by simp)).mono ?_;rintro e w2 ⟨rfl,zK,yF⟩;have yI:=yH.trans yF
 have yK:[]++[Value.int .u8 (k:Int)]=Lib.byteCells ((Bz k n name.size).take 1):=by
  rw[Jc k (by omega) (by omega)];rfl
 rw[yK] at zK;clear zJ yH yF yK;go_wp2
 go_loopw [15] (fun i wr=>∃(j:Nat),j<=4/\i=.int .i64 j/\Lib.IsBuilder 192 5 w1.heap.size w1.heap.size (Lib.byteCells ((Bz k n name.size).take (1+j))) wr/\Uq w1 wr) (fun i _=>4 -(intOf i).toNat)
 case atStart=>exact⟨0,Nat.zero_le _,rfl,zK,yI⟩
 case round=>
  clear zK yI;obtain⟨j,hj,rfl,zJ,zB⟩:=hrel;have yN:=zB.size;have y0:wr.cell? ⟨w.heap.size,0,none⟩=some (.int .i64 k):=(zB.cell (p:=⟨w.heap.size,0,none⟩) zC).trans x0;have y1:wr.cell? ⟨w.heap.size,1,none⟩=some (.string sum):=(zB.cell (p:=⟨w.heap.size,1,none⟩) zC).trans x1;have y2:wr.cell? ⟨w.heap.size,2,none⟩=some (.string name):=(zB.cell (p:=⟨w.heap.size,2,none⟩) zC).trans x2
  have y3:wr.cell? ⟨w.heap.size,3,none⟩=some (.int .i64 n):=(zB.cell (p:=⟨w.heap.size,3,none⟩) zC).trans x3;by_cases hlt:j<4
  ·have yL:=GO k n name.size (1+j)
   have yV:Hid _:=PX k n name.size yT yU j hlt;go_wp2_with fail;refine(DE w1.heap.size w1.heap.size _ _ _ zJ (by omega) yN).mono ?_;rintro e w3 ⟨rfl,zF,zO⟩;rw[yV.o] at zF;have zU:=zB.trans zO;clear zJ zB zO y0 y1 y2 y3;go_wp2;exact⟨⟨j+1,by omega,by go_num,zF,zU⟩,by simp[intOf];omega⟩
  ·obtain rfl:j=4:=by omega
   have yL:=GO k n name.size (1+4);go_wp2_with fail;refine(DE w1.heap.size w1.heap.size _ _ _ zJ (by omega) yN).mono ?_;rintro e w3 ⟨rfl,zF,zO⟩;rw[PY k n name.size (by omega) (by omega)] at zF;have zD:=zB.trans zO;have yC:=zD.size;have y2:w3.cell? ⟨w.heap.size,2,none⟩=some (.string name):=(zD.cell (p:=⟨w.heap.size,2,none⟩) zC).trans x2;clear zJ zB zO y0 y1 y3 yL
   have zV:(Lib.byteCells (Bz k n name.size)).length=6:=rfl;go_wp2_with fail;refine(Cp w1.heap.size w1.heap.size _ name _ zF (by omega) yC).mono ?_;rintro e w4 ⟨rfl,zL,zU⟩;rw[←Lib.byteCells_append] at zL;have zE:=zD.trans zU;have yD:=zE.size;have y1:w4.cell? ⟨w.heap.size,1,none⟩=some (.string sum):=(zE.cell (p:=⟨w.heap.size,1,none⟩) zC).trans x1;clear zF zD zU y2 zV
   have zV:(Lib.byteCells (Bz k n name.size++name.data.toList)).length=6+name.size:=by
    rw[Lib.byteCells_length];simp[Bz];omega
   go_wp2_with fail;refine(Cp w1.heap.size w1.heap.size _ sum _ zL (by omega) yD).mono ?_;rintro e w5 ⟨rfl,zH,yG⟩;rw[←Lib.byteCells_append] at zH;have zA:=zE.trans yG;have zS:=zA.size;have y0:w5.cell? ⟨w.heap.size,0,none⟩=some (.int .i64 k):=(zA.cell (p:=⟨w.heap.size,0,none⟩) zC).trans x0;have y4:w5.cell? ⟨w.heap.size,4,none⟩=some (.string t):=(zA.cell (p:=⟨w.heap.size,4,none⟩) zC).trans x4
   have y5:w5.cell? ⟨w.heap.size,5,none⟩=some (.slice ad ss.length cap):=(zA.cell (p:=⟨w.heap.size,5,none⟩) zC).trans x5;have zR:=zQ.below (zA.mono (by omega));have yX:=zI.trans (zA.mono zI.size);clear zL zE yG y1 zV;have zV:(Lib.byteCells (Bz k n name.size++name.data.toList++sum.data.toList)).length=6+name.size+sum.size:=by
    rw[Lib.byteCells_length];simp[Bz];omega
   by_cases hk1:k=1
   ·subst hk1
    have zX:=(DA yP.o).thing rfl;have yB:=AY zX;have yY:=yB.bulk_le;have xC:=yB.text;have xB:=yB.refs;go_wp2_with fail;refine(JC t ad cap ss wd w5 (zR.mono (by omega)) zX).mono ?_;rintro e w6 ⟨rfl,zY⟩;have yA:=OO zH zY;have xF:=zY.size;have yZ:(AS t ss).length<=3000:=by
     have:=Cc ss;simp[AS,this];omega
    have yJ:(ByteArray.mk (AS t ss).toArray).size=(AS t ss).length:=by simp[ByteArray.size]
    have yO:Hid _:=yJ;clear yJ;go_wp2_with fail;refine(Cp w1.heap.size w1.heap.size _ _ _ yA (by rw[yO.o];omega) (by omega)).mono ?_;rintro e w7 ⟨rfl,zP,yQ⟩;have yR:Lib.byteCells (Bz (1:Nat) n name.size++name.data.toList++sum.data.toList)++Lib.byteCells (ByteArray.mk (AS t ss).toArray).data.toList=Lib.byteCells (DS 1 sum name n t ss):=by
     rw[←Lib.byteCells_append];rfl
    rw[yR] at zP;have zN:=(zA.trans (zY.mono zS)).trans yQ;have yE:=zN.size;go_wp2_with fail;refine(Tryz.Builder_String_any w1.heap.size w1.heap.size _ _ zP yE).mono ?_;rintro e w8 ⟨rfl,zZ⟩;go_wp2;go_ret;exact⟨rfl,zI.trans ((zN.trans zZ).mono zI.size)⟩
   ·have xA:((k:Int)==1)=false:=beq_eq_false_iff_ne.2 (by omega)
    have yS:Bz k n name.size++name.data.toList++sum.data.toList=DS k sum name n t ss:=by
     unfold DS;rw[if_neg hk1,List.append_nil]
    rw[yS] at zH;go_wp2_with fail;refine(Tryz.Builder_String_any w1.heap.size w1.heap.size _ _ zH zS).mono ?_;rintro e w8 ⟨rfl,zZ⟩;go_wp2;go_ret;exact⟨rfl,zI.trans ((zA.trans zZ).mono zI.size)⟩
theorem Sp (k:Int) (sum name:ByteArray) (n:Int) (t:ByteArray) (ad:Option Addr) (cap:Nat) (ss:List ByteArray) (wd:Int) (w:World) (hT:Gl w)
 (zB:Ad w w.heap.size ad ss) (hl:ss.length<=1048576) (ht:t.size<=maxLen) (hn:name.size<=maxLen):
 Calls prog 66 #[.agg (Gm k sum name n t ad ss.length cap),.int .i64 wd] w fun e w'=>e=.returned (.string (Cx k sum name n t ss wd))/\Uq w w':=by
 cases hok:BA k sum name n t ss wd with
 |true=>
  rw[show Cx k sum name n t ss wd=⟨(DS k.toNat sum name n t ss).toArray⟩ from by unfold Cx;rw[if_pos hok]];unfold BA at hok;simp only[Bool.and_eq_true,decide_eq_true_eq] at hok;obtain⟨m,rfl⟩:∃m:Nat,k=m:=⟨k.toNat,by omega⟩;rw[Int.toNat_natCast] at hok ⊢;exact OP m sum name n t ad cap ss wd w hT (by omega) (by omega) zB hl ht hok.2
 |false=>
  rw[show Cx k sum name n t ss wd=ByteArray.empty from by unfold Cx;rw[if_neg (by rw[hok];decide)]];have zC:Below w.heap.size w (w.alloc (.cells (Gm k sum name n t ad ss.length cap) 92)):=Ur;have zA:=OZ k sum name n t ad cap ss wd _ (hT.below zC) (zB.below' zC) hl ht hn;rw[hok] at zA;clear hok;go_enter func66,ntmps66;go_wp2_with fail;refine zA.mono ?_;rintro e w1 ⟨rfl,zD⟩;go_wp2;go_ret
  exact⟨rfl,zC.trans (zD.mono (by simp))⟩
section
attribute [local go_sem↓] Go.wp_at_zero Go.wp_at_succ
def Dn (ss tt:List ByteArray) (e:ByteArray):Int:=if Cb ss tt=true/\e.size<=5000 then (if ss.length+tt.length=4000 then 2 else 0) else 1
theorem Do {w w':World} {b B:Nat} {u v:Value} (h:w.cell? ⟨b,0,none⟩=some u/\w.cell? ⟨b,1,none⟩=some v) (hb:Below B w w') (hB:b<B):w'.cell? ⟨b,0,none⟩=some u/\w'.cell? ⟨b,1,none⟩=some v:=
 ⟨(hb.cell (p:=⟨b,0,none⟩) hB).trans h.1,(hb.cell (p:=⟨b,1,none⟩) hB).trans h.2⟩
theorem Nq (a b:Option Addr) (c d:Nat) (ss tt:List ByteArray) (en:ByteArray) (w:World) (hr:Ad w w.heap.size a ss) (hq:Ad w w.heap.size b tt) (hl:ss.length<=1048576) (xA:tt.length<=1048576)
 (hs:∀s∈ss,s.size<=1048576) (xC:∀s∈tt,s.size<=1048576) (xJ:Cb ss tt=true) (he:en.size<=5000) (hn:¬ss.length+tt.length=4000):
 Calls prog 65 #[.agg #[.slice a ss.length c,.slice b tt.length d],.string en] w fun e w'=>∃v u,e=.returned (.tuple #[.agg #[v,u],.int .i64 0])/\
  w'.ownsRow w.heap.size 9 1 v ss.length (ss.map Value.string)/\w'.ownsRow w.heap.size 9 1 u (tt++[en]).length ((tt++[en]).map Value.string)/\(v.ownBlock=none∨v.ownBlock≠u.ownBlock)/\Uq w w':=by
 obtain⟨i0,hi,yV,yW,yX⟩:=info_parts Cv;have yP:Below w.heap.size w ((w.alloc (.cells #[.slice a ss.length c,.slice b tt.length d] 27)).alloc (.cells #[.slice none 0 0,.slice none 0 0] 27)):=(Ur).alloc (by simp) _;have xM:decide ((5000:Int)<(en.size:Int))=false:=by simp;omega
 go_enter func65,ntmps65;go_wp2_with fail;refine(DG a b c d ss tt _ (hr.below' yP) (hq.below' yP) hl xA hs xC).mono ?_;rintro e w1 ⟨rfl,zY⟩;have yT:=yP.trans (zY.mono (by simp;omega));have yL:=zY.size;simp at yL;have c0:w1.cell? ⟨w.heap.size,0,none⟩=some (.slice a ss.length c):=by rw[zY.cell (p:=⟨w.heap.size,0,none⟩) (by simp;omega)];simp[go_sem]
 have c1:w1.cell? ⟨w.heap.size,1,none⟩=some (.slice b tt.length d):=by rw[zY.cell (p:=⟨w.heap.size,1,none⟩) (by simp;omega)];simp[go_sem]
 have r0:w1.cell? ⟨w.heap.size+1,0,none⟩=some (.slice none 0 0):=by rw[zY.cell (p:=⟨w.heap.size+1,0,none⟩) (by simp)];simp[go_sem]
 have r1:w1.cell? ⟨w.heap.size+1,1,none⟩=some (.slice none 0 0):=by rw[zY.cell (p:=⟨w.heap.size+1,1,none⟩) (by simp)];simp[go_sem]
 have f0:∀o,w1.frozen? ⟨w.heap.size+1,o,none⟩=false:=fun o=>by rw[zY.frozen (p:=⟨w.heap.size+1,o,none⟩) (by simp)];simp[go_sem]
 have HR:Hid _:=And.intro r0 (And.intro r1 f0);have yR:Hid _:=And.intro hr hq;clear zY r0 r1 f0 hr hq hs xC;rw[xJ];go_wp2_with fail;refine(Eh a b ss.length tt.length c d _).mono ?_;rintro e w2 ⟨rfl,yF⟩;have yU:=yT.trans (yF.mono yT.size)
 have yN:Hid (w2.cell? ⟨w.heap.size+1,0,none⟩=some (.slice none 0 0)/\w2.cell? ⟨w.heap.size+1,1,none⟩=some (.slice none 0 0)/\∀o,w2.frozen? ⟨w.heap.size+1,o,none⟩=false):=⟨(yF.cell (p:=⟨w.heap.size+1,0,none⟩) (by simp;omega)).trans HR.o.1,(yF.cell (p:=⟨w.heap.size+1,1,none⟩) (by simp;omega)).trans HR.o.2.1,fun o=>(yF.frozen (p:=⟨w.heap.size+1,o,none⟩) (by simp;omega)).trans (HR.o.2.2 o)⟩
 have yY:=yF.size;clear yF HR c0 c1;go_wp2_with fail;refine(GL a b ss.length tt.length c d _ hl xA).mono ?_;rintro e w3 ⟨rfl,yJ⟩;have yE:Below w.heap.size w w3:=(yU.alloc yU.size _).trans (yJ.mono (by simp;omega));have xE:=yJ.size;simp at xE
 have d0:w3.cell? ⟨w2.heap.size,0,none⟩=some (.slice a ss.length c)/\w3.cell? ⟨w2.heap.size,1,none⟩=some (.slice b tt.length d):=Do (B:=w2.heap.size+1) ⟨by simp,by simp⟩ (yJ.mono (by simp)) (by omega);have yQ:Below w2.heap.size w2 w3:=(Ur).trans (yJ.mono (by simp));have q0:=(yQ.cell (p:=⟨w.heap.size+1,0,none⟩) (by simp;omega)).trans yN.o.1
 have q1:=(yQ.cell (p:=⟨w.heap.size+1,1,none⟩) (by simp;omega)).trans yN.o.2.1;have qf:∀o,w3.frozen? ⟨w.heap.size+1,o,none⟩=false:=fun o=>(yQ.frozen (p:=⟨w.heap.size+1,o,none⟩) (by simp;omega)).trans (yN.o.2.2 o);have xN:((ss.length:Int)+tt.length==4000)=false:=by simp;omega
 have zX:w2.heap.size<w3.heap.size:=by omega
 have zV:w.heap.size+1<w3.heap.size:=by omega
 have xL:w.heap.size+1<w2.heap.size:=by omega
 generalize w2.heap.size=D at *
 have hK:∀W,Uq w3 W->Calls prog 99 #[.func (.func 40) #[.agg #[.slice a ss.length c]] #[]] W fun e w'=>∃v,e=.returned v/\w'.ownsRow W.heap.size 9 1 v ss.length (ss.map Value.string)/\Uq W w':=fun W hB=>by
  have yC:=yE.trans (hB.mono yE.size);exact Ho 40 _ (enters_of func40 (by kernel_rfl) rfl) ss w.heap.size _ (Ka a c ss w.heap.size W (yR.o.1.below yC) yC.size (by unfold maxLen;omega)) yC.size (by omega)
 have hO:∀W,Uq w3 W->Calls prog 99 #[.func (.func 41) #[.agg #[.slice a ss.length c,.slice b tt.length d]] #[]] W fun e w'=>∃v,e=.returned v/\w'.ownsRow W.heap.size 9 1 v tt.length (tt.map Value.string)/\Uq W w':=fun W hB=>by
  have yC:=yE.trans (hB.mono yE.size);exact Ho 41 _ (enters_of func41 (by kernel_rfl) rfl) tt w.heap.size _ (Kb _ b d tt w.heap.size W (yR.o.2.below yC) yC.size (by unfold maxLen;omega)) yC.size (by omega)
 have HK:Hid _:=hK;have HO:Hid _:=hO;have yD:Hid _:=yE;clear hK hO yE yJ yQ yN yR yU yT yP yL yY xE;have yZ:Below w3.heap.size w3 w3.drew:=(Below.refl _ _).drew;have yO:∀o,Uq w3 (w3.alloc o).drew:=fun o=>(Ur).drew;go_wp2;go_region_held3 (fun w'=>w'.cell? ⟨D,0,none⟩=some (.slice a ss.length c)/\w'.cell? ⟨D,1,none⟩=some (.slice b tt.length d))
  (first|exact zL|exact⟨by rw[World.cell?_setCell_other _ _ _ _ (by simp<;>omega),World.cell?_setCell_other _ _ _ _ (by simp<;>omega)];exact zL.1,by rw[World.cell?_setCell_other _ _ _ _ (by simp<;>omega),World.cell?_setCell_other _ _ _ _ (by simp<;>omega)];exact zL.2⟩|exact zU|exact Do zU (Ur) zP|exact yS|exact Do yS (Ur) zO|exact d0|exact Do d0 (yO _) zX|go_keep)
  (first
    |(go_at_call 99;guard_target=~Calls prog 99 #[Value.func (Fn.func 40) #[Value.agg #[Value.slice a ss.length c]] #[]] (World.drew w3) _;refine(HK.o w3.drew yZ).mono ?_;rintro e zD ⟨xK,rfl,zE,zR⟩;obtain⟨av,cv,rfl,_⟩:=EC zE;have zG:Below w3.heap.size w3 zD:=yZ.trans (zR.mono (by first|omega|simp));have yS:=Do d0 zG zX;have zT:=zG.size;have zO:D<zD.heap.size:=Uy zX zT;have zE:zD.ownsRow w3.heap.size 9 1 (.slice av ss.length cv) ss.length (ss.map Value.string):=zE.mono (by first|omega|simp))
    |(go_at_call 99;guard_target=~Calls prog 99 #[Value.func (Fn.func 40) #[Value.agg #[Value.slice a ss.length c]] #[]] (World.drew (World.alloc w3 _)) _;refine(HK.o (w3.alloc _).drew (yO _)).mono ?_;rintro e zD ⟨xK,rfl,zE,zR⟩;obtain⟨av,cv,rfl,_⟩:=EC zE;have zG:Below w3.heap.size w3 zD:=(yO _).trans (zR.mono (by first|omega|simp));have yS:=Do d0 zG zX;have zT:=zG.size;have zO:D<zD.heap.size:=Uy zX zT;have zE:zD.ownsRow w3.heap.size 9 1 (.slice av ss.length cv) ss.length (ss.map Value.string):=zE.mono (by first|omega|simp);have xD:w3.heap.size<zD.heap.size:=(by have:=zR.size;simp at this;omega);have xG:zD.cell? ⟨w3.heap.size,0,none⟩=some (.string en):=(by rw[zR.cell (p:=⟨w3.heap.size,0,none⟩) (by simp)];simp[go_sem]))
    |(go_at_call 99;have xB:=xG;guard_target=~Calls prog 99 #[Value.func (Fn.func 41) #[Value.agg #[Value.slice a ss.length c,Value.slice b tt.length d]] #[]] zD _;refine(HO.o zD zG).mono ?_;rintro e zH ⟨xI,rfl,zA,zF⟩;obtain⟨au,cu,rfl,_⟩:=EC zA;have zI:Below w3.heap.size w3 zH:=zG.trans (zF.mono (by first|omega|(simp;omega)));have zU:=Do d0 zI zX;have zK:zD.heap.size<=zH.heap.size:=(by have:=zF.size;first|omega|(simp at this;omega));have zP:D<zH.heap.size:=Uy zO zK;have zA:zH.ownsRow zD.heap.size 9 1 (.slice au tt.length cu) tt.length (tt.map Value.string):=zA.mono (by first|omega|simp);have zS:=Ci zE zF;have xH:=(zF.cell (p:=⟨w3.heap.size,0,none⟩) (by simp;omega)).trans xG)
    |(go_at_call 99;guard_target=~Calls prog 99 #[Value.func (Fn.func 41) #[Value.agg #[Value.slice a ss.length c,Value.slice b tt.length d]] #[]] zD _;refine(HO.o zD zG).mono ?_;rintro e zH ⟨xI,rfl,zA,zF⟩;obtain⟨au,cu,rfl,_⟩:=EC zA;have zI:Below w3.heap.size w3 zH:=zG.trans (zF.mono (by first|omega|(simp;omega)));have zU:=Do d0 zI zX;have zK:zD.heap.size<=zH.heap.size:=(by have:=zF.size;first|omega|(simp at this;omega));have zP:D<zH.heap.size:=Uy zO zK;have zA:zH.ownsRow zD.heap.size 9 1 (.slice au tt.length cu) tt.length (tt.map Value.string):=zA.mono (by first|omega|simp);have zS:=Ci zE zF)
    |(go_at_call 99;guard_target=~Calls prog 99 #[Value.func (Fn.func 41) #[Value.agg #[Value.slice a ss.length c,Value.slice b tt.length d]] #[]] (World.alloc zD _) _;refine(HO.o (zD.alloc _) (zG.alloc zT _)).mono ?_;rintro e zH ⟨xI,rfl,zA,zF⟩;obtain⟨au,cu,rfl,_⟩:=EC zA;have zI:Below w3.heap.size w3 zH:=(zG.alloc zT _).trans (zF.mono (by first|omega|(simp;omega)));have zU:=Do d0 zI zX;have zK:zD.heap.size<=zH.heap.size:=(by have:=zF.size;first|omega|(simp at this;omega));have zP:D<zH.heap.size:=Uy zO zK;have zA:zH.ownsRow zD.heap.size 9 1 (.slice au tt.length cu) tt.length (tt.map Value.string):=zA.mono (by first|omega|simp);have zS:=Ci (Ci zE ((Below.refl zD.heap.size zD).alloc (Us) (.cells #[.string en] 9))) zF;have xF:zH.cell? ⟨zD.heap.size,0,none⟩=some (.string en):=(by rw[zF.cell (p:=⟨zD.heap.size,0,none⟩) (by simp)];simp[go_sem]))
    |(have xB:=xH;refine step_append_lies zH (by rfl) (.tmp 28) (.tmp 30) 25 (by rfl) zD.heap.size 9 i0 (.string ⟨#[]⟩) 1 16 underlying25 hi yV yW yX rfl (by decide) (.slice au tt.length cu) tt.length (tt.map Value.string) (by rfl) zA ⟨w3.heap.size,0,none⟩ 1 1 [.string en] (by rfl) rfl (fun j u hj=>by cases j with|zero=>(simp at hj;subst hj;simpa [Go.WideShapes.add_plain] using xH)|succ j=>simp at hj) (fun u hu=>by simp at hu;subst hu;rfl) (by omega) (by unfold maxLen;omega) (by omega) zK _ rfl ?_;intro zN zC zJ zM zB zQ zZ;have zL:zJ.cell? ⟨D,0,none⟩=some (.slice a ss.length c)/\zJ.cell? ⟨D,1,none⟩=some (.slice b tt.length d):=⟨zB.cell zU.1 (fun e=>by have:=(zA.lt D e.symm).1;omega),zB.cell zU.2 (fun e=>by have:=(zA.lt D e.symm).1;omega)⟩;have yH:=Ff (v:=.slice av ss.length cv) zA (fun g hg=>(zE.lt g hg).2);have zW:=zS.kept zB yH;have yM:=zB.size;have RB:=zI;have y0:=zB.cell ((RB.cell (p:=⟨w.heap.size+1,0,none⟩) zV).trans q0) (fun e=>by have:=(zA.lt (w.heap.size+1) e.symm).1;omega);have y1:=zB.cell ((RB.cell (p:=⟨w.heap.size+1,1,none⟩) zV).trans q1) (fun e=>by have:=(zA.lt (w.heap.size+1) e.symm).1;omega);have yf:∀o,zJ.frozen? ⟨w.heap.size+1,o,none⟩=false:=(fun o=>(zB.frozen_far ⟨w.heap.size+1,o,none⟩ (by simp;omega) (fun e=>by have:=(zA.lt (w.heap.size+1) e.symm).1;omega)).trans ((RB.frozen (p:=⟨w.heap.size+1,o,none⟩) zV).trans (qf o))))
    |(have xB:=xF;refine step_append_lies zH (by rfl) (.tmp 28) (.tmp 30) 25 (by rfl) zD.heap.size 9 i0 (.string ⟨#[]⟩) 1 16 underlying25 hi yV yW yX rfl (by decide) (.slice au tt.length cu) tt.length (tt.map Value.string) (by rfl) zA ⟨zD.heap.size,0,none⟩ 1 1 [.string en] (by rfl) rfl (fun j u hj=>by cases j with|zero=>(simp at hj;subst hj;simpa [Go.WideShapes.add_plain] using xF)|succ j=>simp at hj) (fun u hu=>by simp at hu;subst hu;rfl) (by omega) (by unfold maxLen;omega) (by omega) zK _ rfl ?_;intro zN zC zJ zM zB zQ zZ;have zL:zJ.cell? ⟨D,0,none⟩=some (.slice a ss.length c)/\zJ.cell? ⟨D,1,none⟩=some (.slice b tt.length d):=⟨zB.cell zU.1 (fun e=>by have:=(zA.lt D e.symm).1;omega),zB.cell zU.2 (fun e=>by have:=(zA.lt D e.symm).1;omega)⟩;have yH:=Ff (v:=.slice av ss.length cv) zA (fun g hg=>(zE.lt g hg).2);have zW:=zS.kept zB yH;have yM:=zB.size;have RB:=zI;have y0:=zB.cell ((RB.cell (p:=⟨w.heap.size+1,0,none⟩) zV).trans q0) (fun e=>by have:=(zA.lt (w.heap.size+1) e.symm).1;omega);have y1:=zB.cell ((RB.cell (p:=⟨w.heap.size+1,1,none⟩) zV).trans q1) (fun e=>by have:=(zA.lt (w.heap.size+1) e.symm).1;omega);have yf:∀o,zJ.frozen? ⟨w.heap.size+1,o,none⟩=false:=(fun o=>(zB.frozen_far ⟨w.heap.size+1,o,none⟩ (by simp;omega) (fun e=>by have:=(zA.lt (w.heap.size+1) e.symm).1;omega)).trans ((RB.frozen (p:=⟨w.heap.size+1,o,none⟩) zV).trans (qf o))))
    |(refine step_append_lies (zH.alloc (.cells #[.string en] 9)) (by rfl) (.tmp 28) (.tmp 30) 25 (by rfl) zD.heap.size 9 i0 (.string ⟨#[]⟩) 1 16 underlying25 hi yV yW yX rfl (by decide) (.slice au tt.length cu) tt.length (tt.map Value.string) (by rfl) (zA.alloc _) ⟨zH.heap.size,0,none⟩ 1 1 [.string en] (by rfl) rfl (fun j u hj=>by cases j with|zero=>(simp at hj;subst hj;simp[Go.WideShapes.add_plain])|succ j=>simp at hj) (fun u hu=>by simp at hu;subst hu;rfl) (by omega) (by unfold maxLen;omega) (by omega) (by simp;omega) _ rfl ?_;intro zN zC zJ zM zB zQ zZ;have zL:zJ.cell? ⟨D,0,none⟩=some (.slice a ss.length c)/\zJ.cell? ⟨D,1,none⟩=some (.slice b tt.length d):=⟨zB.cell (Do zU (Ur) zP).1 (fun e=>by have:=(zA.lt D e.symm).1;omega),zB.cell (Do zU (Ur) zP).2 (fun e=>by have:=(zA.lt D e.symm).1;omega)⟩;have yH:=Ff (v:=.slice av ss.length cv) zA (fun g hg=>(zE.lt g hg).2);have zW:=(zS.alloc _).kept zB yH;have yM:=zB.size;have RB:=(zI.alloc (by omega) (.cells #[.string en] 9));have y0:=zB.cell ((RB.cell (p:=⟨w.heap.size+1,0,none⟩) zV).trans q0) (fun e=>by have:=(zA.lt (w.heap.size+1) e.symm).1;omega);have y1:=zB.cell ((RB.cell (p:=⟨w.heap.size+1,1,none⟩) zV).trans q1) (fun e=>by have:=(zA.lt (w.heap.size+1) e.symm).1;omega);have yf:∀o,zJ.frozen? ⟨w.heap.size+1,o,none⟩=false:=(fun o=>(zB.frozen_far ⟨w.heap.size+1,o,none⟩ (by simp;omega) (fun e=>by have:=(zA.lt (w.heap.size+1) e.symm).1;omega)).trans ((RB.frozen (p:=⟨w.heap.size+1,o,none⟩) zV).trans (qf o)))))
 all_goals
  have yG:Below w.heap.size w zJ:=(yD.o.trans (RB.mono yD.o.size)).grown zB (Uz yD.o.size RB.size) (fun k hk=>by have:=(zA.lt k hk).1;have:=yD.o.size;omega);have yK:zJ.ownsRow w.heap.size 9 1 (.slice (some ⟨zN,0,none⟩) (tt++[en]).length zC) (tt++[en]).length ((tt++[en]).map Value.string):=by
   have:=World.ownsRow.mono zM (show w.heap.size<=zD.heap.size by have:=yD.o.size;omega);simpa using this
  have yB:=World.ownsRow.mono zW (show w.heap.size+2<=w3.heap.size by omega);have yA:=World.ownsRow.mono zM (show w.heap.size+2<=zD.heap.size by omega);have yI:(Value.slice av ss.length cv).ownBlock=none∨(Value.slice av ss.length cv).ownBlock≠(Value.slice (some ⟨zN,0,none⟩) (tt++[en]).length zC).ownBlock:=by
   rw[show(tt++[en]).length=tt.length+1 by simp];exact Ff (v:=.slice av ss.length cv) zM (fun g hg=>(zE.lt g hg).2)
  have HF:Hid (((zJ.setCell ⟨w.heap.size+1,0,none⟩ (.slice av ss.length cv)).setCell ⟨w.heap.size+1,1,none⟩ (.slice (some ⟨zN,0,none⟩) (tt.length+1) zC)).ownsRow w.heap.size 9 1 (.slice av ss.length cv) ss.length (ss.map Value.string)/\
   ((zJ.setCell ⟨w.heap.size+1,0,none⟩ (.slice av ss.length cv)).setCell ⟨w.heap.size+1,1,none⟩ (.slice (some ⟨zN,0,none⟩) (tt.length+1) zC)).ownsRow w.heap.size 9 1 (.slice (some ⟨zN,0,none⟩) (tt++[en]).length zC) (tt++[en]).length ((tt++[en]).map Value.string)/\
   Uq w ((zJ.setCell ⟨w.heap.size+1,0,none⟩ (.slice av ss.length cv)).setCell ⟨w.heap.size+1,1,none⟩ (.slice (some ⟨zN,0,none⟩) (tt.length+1) zC))):=
   ⟨(ownsRow_setCell_below (ownsRow_setCell_below yB (by simp) _) (by simp) _).mono (by omega),by
     have:=(ownsRow_setCell_below (ownsRow_setCell_below yA (a:=⟨w.heap.size+1,0,none⟩) (by simp) (.slice av ss.length cv)) (a:=⟨w.heap.size+1,1,none⟩) (by simp) (.slice (some ⟨zN,0,none⟩) (tt.length+1) zC)).mono (show w.heap.size<=w.heap.size+2 by omega);simpa using this,(yG.setCell (p:=⟨w.heap.size+1,0,none⟩) (by simp) _).setCell (p:=⟨w.heap.size+1,1,none⟩) (by simp) _⟩
  have HA:Hid _:=yI;clear zM zB zQ zW yK yB yA yI yG RB HK HO yD zL yO;go_wp2;refine bodyPost_ret (v:=.tuple #[.agg #[.slice av ss.length cv,.slice (some ⟨zN,0,none⟩) (tt.length+1) zC],.int .i64 0]) (by simp[results,results65,go_sem,y0,y1]) rfl ⟨_,.slice (some ⟨zN,0,none⟩) (tt++[en]).length zC,by simp,HF.o.1,HF.o.2.1,HA.o,HF.o.2.2⟩
end
section
attribute [local go_sem↓] Go.wp_at_zero Go.wp_at_succ
theorem Nr (a b:Option Addr) (c d:Nat) (ss tt:List ByteArray) (en:ByteArray) (w:World) (hr:Ad w w.heap.size a ss) (hq:Ad w w.heap.size b tt) (hl:ss.length<=1048576) (zJ:tt.length<=1048576)
 (hs:∀s∈ss,s.size<=1048576) (zK:∀s∈tt,s.size<=1048576) (zN:Dn ss tt en≠0):
 Calls prog 65 #[.agg #[.slice a ss.length c,.slice b tt.length d],.string en] w fun e w'=>e=.returned (.tuple #[.agg #[.slice none 0 0,.slice none 0 0],.int .i64 (Dn ss tt en)])/\Uq w w':=by
 have zG:Below w.heap.size w ((w.alloc (.cells #[.slice a ss.length c,.slice b tt.length d] 27)).alloc (.cells #[.slice none 0 0,.slice none 0 0] 27)):=(Ur).alloc (by simp) _;go_enter func65,ntmps65;go_wp2_with fail;refine(DG a b c d ss tt _ (hr.below' zG) (hq.below' zG) hl zJ hs zK).mono ?_;rintro e w1 ⟨rfl,zA⟩;have zD:=zG.trans (zA.mono (by simp;omega));have zH:=zA.size;simp at zH
 have c0:w1.cell? ⟨w.heap.size,0,none⟩=some (.slice a ss.length c):=by rw[zA.cell (p:=⟨w.heap.size,0,none⟩) (by simp;omega)];simp[go_sem]
 have c1:w1.cell? ⟨w.heap.size,1,none⟩=some (.slice b tt.length d):=by rw[zA.cell (p:=⟨w.heap.size,1,none⟩) (by simp;omega)];simp[go_sem]
 have r0:w1.cell? ⟨w.heap.size+1,0,none⟩=some (.slice none 0 0):=by rw[zA.cell (p:=⟨w.heap.size+1,0,none⟩) (by simp)];simp[go_sem]
 have r1:w1.cell? ⟨w.heap.size+1,1,none⟩=some (.slice none 0 0):=by rw[zA.cell (p:=⟨w.heap.size+1,1,none⟩) (by simp)];simp[go_sem]
 have f0:∀o,w1.frozen? ⟨w.heap.size+1,o,none⟩=false:=fun o=>by rw[zA.frozen (p:=⟨w.heap.size+1,o,none⟩) (by simp)];simp[go_sem]
 clear zA hr hq hs zK;cases hok:Cb ss tt with
 |false=>
  have hc:Dn ss tt en=1:=by simp[Dn,hok]
  go_wp2;exact bodyPost_ret (v:=.tuple #[.agg #[.slice none 0 0,.slice none 0 0],.int .i64 1]) (by simp[results,results65,go_sem,r0,r1]) rfl ⟨by rw[hc],(zD.setCell (p:=⟨w.heap.size+1,0,none⟩) (by simp) _).setCell (p:=⟨w.heap.size+1,1,none⟩) (by simp) _⟩
 |true=>
  by_cases he:en.size<=5000
  ·have hn:ss.length+tt.length=4000:=by
    apply Classical.byContradiction;intro h;exact zN (by simp[Dn,hok,he,h])
   have hc:Dn ss tt en=2:=by simp[Dn,hok,he,hn]
   have zM:decide ((5000:Int)<(en.size:Int))=false:=by simp;omega
   have HR:Hid _:=And.intro r0 (And.intro r1 f0);clear r0 r1 f0;go_wp2_with fail;refine(Eh a b ss.length tt.length c d _).mono ?_;rintro e w2 ⟨rfl,zB⟩;have zI:=zD.trans (zB.mono zD.size)
   have zC:Hid (w2.cell? ⟨w.heap.size+1,0,none⟩=some (.slice none 0 0)/\w2.cell? ⟨w.heap.size+1,1,none⟩=some (.slice none 0 0)/\∀o,w2.frozen? ⟨w.heap.size+1,o,none⟩=false):=⟨(zB.cell (p:=⟨w.heap.size+1,0,none⟩) (by simp;omega)).trans HR.o.1,(zB.cell (p:=⟨w.heap.size+1,1,none⟩) (by simp;omega)).trans HR.o.2.1,fun o=>(zB.frozen (p:=⟨w.heap.size+1,o,none⟩) (by simp;omega)).trans (HR.o.2.2 o)⟩
   have zO:=zB.size;clear zB HR c0 c1;go_wp2_with fail;refine(GL a b ss.length tt.length c d _ hl zJ).mono ?_;rintro e w3 ⟨rfl,zF⟩;have zL:Below w.heap.size w w3:=(zI.alloc zI.size _).trans (zF.mono (by simp;omega));have zE:Below w2.heap.size w2 w3:=(Ur).trans (zF.mono (by simp));have q0:=(zE.cell (p:=⟨w.heap.size+1,0,none⟩) (by simp;omega)).trans zC.o.1
   have q1:=(zE.cell (p:=⟨w.heap.size+1,1,none⟩) (by simp;omega)).trans zC.o.2.1;have qf:∀o,w3.frozen? ⟨w.heap.size+1,o,none⟩=false:=fun o=>(zE.frozen (p:=⟨w.heap.size+1,o,none⟩) (by simp;omega)).trans (zC.o.2.2 o);have zP:((ss.length:Int)+tt.length==4000)=true:=by simp;omega
   clear zF zE zC;go_wp2;exact bodyPost_ret (v:=.tuple #[.agg #[.slice none 0 0,.slice none 0 0],.int .i64 2]) (by simp[results,results65,go_sem,q0,q1]) rfl ⟨by rw[hc],(zL.setCell (p:=⟨w.heap.size+1,0,none⟩) (by simp) _).setCell (p:=⟨w.heap.size+1,1,none⟩) (by simp) _⟩
  ·have hc:Dn ss tt en=1:=by simp[Dn,hok,he]
   have zM:decide ((5000:Int)<(en.size:Int))=true:=by simp;omega
   go_wp2;exact bodyPost_ret (v:=.tuple #[.agg #[.slice none 0 0,.slice none 0 0],.int .i64 1]) (by simp[results,results65,go_sem,r0,r1]) rfl ⟨by rw[hc],(zD.setCell (p:=⟨w.heap.size+1,0,none⟩) (by simp) _).setCell (p:=⟨w.heap.size+1,1,none⟩) (by simp) _⟩
end
end Go.Proofs.YtflhhhnlhlaehaaGreatDoor
