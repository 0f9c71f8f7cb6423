import Derived.Test.YtckmnfhmoankmaaGreatDoorX19
import Derived.Deep.CutRange
set_option maxRecDepth 100000
set_option maxHeartbeats 16000000
namespace Go.Proofs.YtckmnfhmoankmaaGreatDoor
open Go.ChangeShapes Go.WideShapes Go.ChangeAt Go.RowKit _root_.Go.Proofs.Tryz
section
open Go.MuLone Go.ChangeShapes Go.WideShapes Go.ChangeAt Go.RowKit
theorem Aai(lo k d m:Nat)(V:List Nat)(v:Vd)(e:Ed)(x y b0 b1 b2 b3 b4 b5 b6 c0 c1 c2 c3 c4 c5:Value)(ra:Zk)(rc:Nat)(Y:Rs->Zh->Prop)(w:Zh)
 (xW:Aa w k [.int .i32 0,.int .u32 0,Zg v.wd,Zg v.aj,x,y,b0,b1,b2,b3,b4,b5,b6,c0,c1,c2,c3,c4,c5,Yz d]) (du:lo<=k) (hV:∀b∈V,lo<=b/\b<k) (sX:d∈V/\m∈V) (vR:∀u∈[Zg v.wd,Zg v.aj,x,y,b0,b1,b2,b3,b4,b5,b6,c0,c1,c2,c3,c4,c5],u.oneCell'=true)
 (hE:∀X,Below lo w X->Calls prog 105 #[.agg (Ym e.kd e.s e.nm e.num e.tx ra e.rf.length rc),Zg v.wd] X fun o A=>o=.returned (.bool (e.ok v.wd))/\Zz X A)
 (hA:e.ok v.wd=true->∀X,Tn [k] w X->Calls prog 106 #[Yz d,.agg (Ym e.kd e.s e.nm e.num e.tx ra e.rf.length rc)] X fun o A=>Tn V X A/\∃c sm le p q,o=.returned (.agg #[Zg c,Zf,Zf,Zf,Zf,Zc,Zc,Zc,.string sm,Zg le,.string p,.string q])/\((e.no v c p q/\sm=⟨#[]⟩/\le=0)∨(c=0/\p=⟨#[]⟩/\q=⟨#[]⟩/\∃r,e.yes v r/\r.sm=sm/\r.le=le/\Y r A)))
 (hY:∀r X A R,Y r X->R∉V->(X.heap.size<=R∨∃rU,X.heap[R]?=some (.cells rU 90))->Tn [R] X A->Y r A) (hD:∀r X,Y r X->X.cell? (Ze d 0)=some (Zg v.wd)/\X.cell? (Ze d 1)=some (.map (some m)))
 (hS:∀r X,Y r X->Calls prog 101 #[Yz d] X fun o A=>∃ta tc pa pc la lc rs,o=.returned (.agg (Ys v.wd r.now r.given r.ae ta r.ks.length tc pa r.ps.length pc la r.ls.length lc))/\AV A X.heap.size (.slice ta r.ks.length tc) (.slice pa r.ps.length pc) (.slice la r.ls.length lc) rs r.ks r.ps r.ls/\Zz X A)
 (sY:e.kd=1) (hR:e.ok v.wd=true->∀r X ta tc pa pc la lc,e.yes v r->BF X X.heap.size ta r.ks->Calls prog 107 #[.agg (Ys v.wd r.now r.given r.ae ta r.ks.length tc pa r.ps.length pc la r.ls.length lc)] X fun o A=>o=.returned (Zg (CH v.wd r.ks))/\Zz X A)
 (hF:e.ok v.wd=true->∀X,Below lo w X->Calls prog 109 #[.agg (Ym e.kd e.s e.nm e.num e.tx ra e.rf.length rc),Zg v.wd] X fun o A=>o=.returned (.string (e.br v.wd))/\Zz X A)
 (hP:e.ok v.wd=true->∀X,Below lo w X->Calls prog 108 #[.agg #[x,y],.string (e.br v.wd)] X fun o A=>Zz X A/\∃I sn J N G O c,o=.returned (.tuple #[.agg #[.slice I sn J,.slice N G O],Zg c])/\((v.ss.length+v.tt.length=4000/\(c==(0:Int))=false)∨(¬v.ss.length+v.tt.length=4000/\c=0/\sn=v.ss.length/\G=(v.tt++[e.br v.wd]).length/\Al A X.heap.size (.slice I sn J) v.ss/\Al A X.heap.size (.slice N G O) (v.tt++[e.br v.wd])/\∀g,Ao (.slice I sn J)=some g->Ao (.slice N G O)≠some g)))
 (hO:∀r,e.yes v r->(if r.sm=⟨#[]⟩then e.s else r.sm)=e.held r)
 (hH:∀r X Z,Y r X->e.yes v r->Below lo w Z->Z.heap[m]?=X.heap[m]? ->Calls prog 110 #[.agg #[Zg v.wd,.map (some m)],.agg #[c0,c1,c2,c3,c4,c5],.string (e.held r)] Z fun o Z'=>Zz Z Z'/\∃qa qc ma mc,o=.returned (.agg (Yr v.ph qa ((shQ v.ph r.ks v.qs v.ms (e.held r)).length) qc ma v.ms.length mc v.ag v.at_ v.ro))/\Al Z' Z.heap.size (.slice qa (shQ v.ph r.ks v.qs v.ms (e.held r)).length qc) (shQ v.ph r.ks v.qs v.ms (e.held r))/\Al Z' Z.heap.size (.slice ma v.ms.length mc) v.ms/\∀g,Ao (.slice qa (shQ v.ph r.ks v.qs v.ms (e.held r)).length qc)=some g->Ao (.slice ma v.ms.length mc)≠some g)
 (rC:v.wd=v.sw):
 Calls prog 53 #[Yz k,.agg (Ym e.kd e.s e.nm e.num e.tx ra e.rf.length rc)] w fun o w'=>Below lo w w'/\((∃c p q,Gy v e c p q/\o=.returned (.agg #[Zg c,Zf,Zf,Zc,Zc,Zf,Zf,Zf,Zf,Zc,Zc,Zc,Zf,Zc,Zc,Zf,Zf,Zf,Zd,Zf,.string p,.string q]))∨(∃r S U T P L Q M rs,Jy v e r/\o=.returned (.agg (Ki (dyes v e r) S U T P L Q M).toArray)/\AU w' lo S U T P L Q M rs (doV v e r))):=by
 have qA:=xW.lt;obtain⟨W,hW⟩:∃W,W=(w.alloc (.cells (Ym e.kd e.s e.nm e.num e.tx ra e.rf.length rc) 67)).alloc (.cells Ya 48):=⟨_,rfl⟩;have bW:=(Bj hW).1;have zW:=(Bj hW).2.1;have xE:=(Bj hW).2.2.1;have xZ:=(Bj (k:=AQ) hW).2.2.2;have xK:=Aa.below xW bW;obtain⟨W1,vD⟩:∃X,X=W.setCell (Ze k 0) (.int .i32 1):=⟨_,rfl⟩;have t1:Tn [k] W W1:=by rw[vD];exact Tn.set _ _ _ _ (by simp)
 have qV:W1.heap.size=W.heap.size:=by rw[vD];simp
 have sC:Aa W1 k [.int .i32 1,.int .u32 0,Zg v.wd,Zg v.aj,x,y,b0,b1,b2,b3,b4,b5,b6,c0,c1,c2,c3,c4,c5,Yz d]:=by rw[vD];exact xK.set 0 _
 have yX:=Aa.same xE (t1.block _ (by omega) (by simp;omega));have rL:Aa W1 (w.heap.size+1) AQ:=Aa.same xZ (t1.block _ (by omega) (by simp;omega));have sB:Tn [k] w W1:=((Tn.of (V:=[]) bW).mono (by simp)).trans t1;have vX:=Yx (Zb sC (Zb yX rL));have zA:Hid (lo<=k/\k<w.heap.size/\Below lo w W1/\Tn [k] w W1/\W1.heap.size=w.heap.size+2):=⟨du,qA,sB.below (by omega) (by simp;exact du),sB,by omega⟩
 have zU:Hid (lo<=w.heap.size):=by show lo<=w.heap.size;omega
 have HV:=Yx (Zn hV sX);have vV:=Yx vR;have HE:=Yx hE;have HA:=Yx hA;have HY:=Yx hY;have vT:=Yx hD;have HS:=Yx hS;have HR:=Yx hR;have sI:=Yx sY;have HF:=Yx hF;have HP:=Yx hP;have HO:=Yx hO;have HH:=Yx hH;have xS:=Yx rC;have HW:=Yx hW;have sM:=Yx vD;obtain⟨sR,f0⟩:=xK 0 _ rfl;obtain⟨rT,_⟩:=sC 2 _ rfl;obtain⟨e0,_⟩:=yX 0 _ rfl;obtain⟨e1,_⟩:=yX 1 _ rfl;obtain⟨e2,_⟩:=yX 2 _ rfl;obtain⟨e3,_⟩:=yX 3 _ rfl
 obtain⟨e4,_⟩:=yX 4 _ rfl;obtain⟨e5,_⟩:=yX 5 _ rfl;clear hW vD xW hV sX vR hE hA hY hD hS hR sY hF hP hO hH rC xE xZ xK sC yX rL sB t1 bW du
 go_enter_defers func53,ntmps53
 go_upto_region 1 with fail;rw[←HW.o];clear HW;go_upto_region 3 with(go_at_call 103;refine(lock_free JD ⟨k,0,none⟩ _ sR f0).mono ?_;rintro o w' ⟨rfl,rfl⟩;rw[←sM.o];clear sM sR f0);go_cut [23]from 9 to 100 (fun nb wx=>nb=.bool (!(e.ok v.wd))/\Hid (Zz W1 wx))
 case first=>
  refine wp_region_noPanic ?_;go_region_with (go_at_call 105;refine(HE.o W1.drew zA.o.2.2.1.drew).mono ?_;rintro o w2 ⟨rfl,yT⟩;have tB:Below W1.heap.size W1 w2:=(Below.refl W1.heap.size W1).drew.trans yT)
  all_goals ((try refine NoPanic.normal ?_);go_wp2_with fail;go_meet;exact⟨rfl,tB⟩)
 case rest=>
 revert wc;intro w2 hcut;obtain⟨rfl,tB⟩:=hcut;have yT:=tB.o;clear HE e0 e1 e2 e3 e4 e5 rT tB;have z2:=yT.size;have zI:Hid (Aa w2 k [.int .i32 1,.int .u32 0,Zg v.wd,Zg v.aj,x,y,b0,b1,b2,b3,b4,b5,b6,c0,c1,c2,c3,c4,c5,Yz d]/\Aa w2 w.heap.size (Yn e.kd e.s e.nm e.num e.tx ra e.rf.length rc)/\Aa w2 (w.heap.size+1) AQ):=⟨Aa.below vX.o.1 yT,Aa.below vX.o.2.1 yT,Aa.below (v:=Zf) vX.o.2.2 yT⟩
 have xB:Hid (Below lo w w2/\Tn [k] w w2):=⟨zA.o.2.2.1.trans (yT.mono (by have:=zA.o;omega)),zA.o.2.2.2.1.trans ((Tn.of (V:=[]) yT).mono (by simp))⟩;clear yT vX;cases hoe:e.ok v.wd with
 |false=>
  have xF:Hid (Gy v e 1 ⟨#[]⟩ ⟨#[]⟩):=.inl ⟨hoe,rfl,rfl,rfl⟩;clear hoe HA HS HR HF HP HO HH HY vT HV vV xS;obtain⟨W9,zH⟩:∃Y,Y=w2.setCells (w.heap.size+1) 0 (Xz 1):=⟨_,rfl⟩;obtain⟨yH,F⟩:∃Y,Y=W9.setCell (Ze k 0) (.int .i32 0):=⟨_,rfl⟩;obtain⟨l0,g0,yA,zX⟩:=Iv (z:=Zf) (cs:=(Xz 1)) zI.o.1 zI.o.2.2 rfl (by have:=zA.o;omega) zH F
  have zS:=Yx (Zn (show((Xy 1):Array Value).all (·.oneCell')=true by kernel_rfl) zI.o.2.2.there);have yR:Hid (Below lo w yH):=xB.o.1.trans (zX.below (Zm zU.o xB.o.1.size) (by have:=zA.o;simp;omega));have HU:=Yx (Zn l0 g0);have n:=Yx yA;have yS:=Yx zH;have zR:=Yx F;clear zH F l0 g0 yA zX
  go_wp2_with (refine wpList_store_mid rfl 48 _ _ rfl (w.heap.size+1) 0 (Xy 1) rfl rfl zS.o.2 (by kernel_rfl) zS.o.1 ?_);rw[←yS.o];refine leaves_cons (f:=104) (args:= #[Yz k]) (by simp) (by simp[go_sem]) ?_;refine(unlock_deferred JD ⟨k,0,none⟩ .returning _ HU.o.1 HU.o.2).mono ?_;rintro o u' tF ⟨rfl,rfl,rfl⟩;rw[←zR.o]
  exact⟨_,BL results53 _ _ (w.heap.size+1) (Xz 1) _ rfl (Aa.range n.o) underlying48 rfl (by kernel_rfl),yR.o,.inl ⟨1,⟨#[]⟩,⟨#[]⟩,xF.o,rfl⟩⟩
 |true=>
  have vA:Hid (e.ok v.wd=true):=hoe;replace HA:=Yx (HA.o hoe);replace HF:=Yx (HF.o hoe);replace HR:=Yx (HR.o hoe);replace HP:=Yx (HP.o hoe);obtain⟨e0,_⟩:=zI.o.2.1 0 _ rfl;obtain⟨e1,_⟩:=zI.o.2.1 1 _ rfl;obtain⟨e2,_⟩:=zI.o.2.1 2 _ rfl;obtain⟨e3,_⟩:=zI.o.2.1 3 _ rfl;obtain⟨e4,_⟩:=zI.o.2.1 4 _ rfl;obtain⟨e5,_⟩:=zI.o.2.1 5 _ rfl;obtain⟨xI,_⟩:=zI.o.1 19 _ rfl
  have TB:Tn [k] w w2.drew:=xB.o.2.trans ((Tn.of (V:=[]) (Below.refl _ _).drew).mono (by simp));have bA:Below w2.heap.size w2 (w2.alloc (.cells Yl 90)).drew:=(Zy).drew;have TA:Tn [k] w (w2.alloc (.cells Yl 90)).drew:=xB.o.2.trans ((Tn.of (V:=[]) bA).mono (by simp));have q1:=zA.o;have rB:w2.heap.size∉V:=fun h=>by have:=HV.o.1 _ h;omega
  clear hoe;have vG:k∉V:=fun h=>by have:=HV.o.1 k h;omega
  have vH:w.heap.size∉V:=fun h=>by have:=HV.o.1 _ h;omega
  have zE:Hid (∀X A,(X.cell? (Ze k 19)=some (Yz d)/\Aa X w.heap.size (Yn e.kd e.s e.nm e.num e.tx ra e.rf.length rc))->Zz X A->A.cell? (Ze k 19)=some (Yz d)/\Aa A w.heap.size (Yn e.kd e.s e.nm e.num e.tx ra e.rf.length rc)):=fun X A B h2=>⟨(cell_of_block (h2.block k (World.block_lt_of_cell? X _ B.1)) 19).trans B.1,Aa.below B.2 h2⟩
  have tO:Hid (∀X A,(X.cell? (Ze k 19)=some (Yz d)/\Aa X w.heap.size (Yn e.kd e.s e.nm e.num e.tx ra e.rf.length rc))->Tn V X A->A.cell? (Ze k 19)=some (Yz d)/\Aa A w.heap.size (Yn e.kd e.s e.nm e.num e.tx ra e.rf.length rc)):=fun X A B h2=>⟨(cell_of_block (h2.block k (World.block_lt_of_cell? X _ B.1) vG) 19).trans B.1,Aa.same B.2 (h2.block _ B.2.lt vH)⟩
  have yG:Hid (∀X A cb,(X.cell? (Ze k 19)=some (Yz d)/\Aa X w.heap.size (Yn e.kd e.s e.nm e.num e.tx ra e.rf.length rc))->w2.heap.size<=cb->Tn [cb] X A->A.cell? (Ze k 19)=some (Yz d)/\Aa A w.heap.size (Yn e.kd e.s e.nm e.num e.tx ra e.rf.length rc)):=fun X A cb B hc h2=>⟨(cell_of_block (h2.block k (World.block_lt_of_cell? X _ B.1) (by simp;omega)) 19).trans B.1,Aa.same B.2 (h2.block _ B.2.lt (by simp;omega))⟩
  have zK:Hid (∀X cb c sm le p q,w2.heap.size<=cb->Tn V w2 X->X.heap[cb]?=some (.cells z12.toArray 90 (0,0))->((e.no v c p q/\sm=⟨#[]⟩/\le=0)∨(c=0/\p=⟨#[]⟩/\q=⟨#[]⟩/\∃r,e.yes v r/\r.sm=sm/\r.le=le/\Y r X))->Hid (w2.heap.size<=cb/\Tn V w2 (X.setCells cb 0 [Zg c,Zf,Zf,Zf,Zf,Zc,Zc,Zc,.string sm,Zg le,.string p,.string q])/\∃c' sA tZ p' q',Aa (X.setCells cb 0 [Zg c,Zf,Zf,Zf,Zf,Zc,Zc,Zc,.string sm,Zg le,.string p,.string q]) cb [Zg c',Zf,Zf,Zf,Zf,Zc,Zc,Zc,.string sA,Zg tZ,.string p',.string q']/\((e.no v c' p' q'/\sA=⟨#[]⟩/\tZ=0)∨(c'=0/\p'=⟨#[]⟩/\q'=⟨#[]⟩/\∃r,e.yes v r/\r.sm=sA/\r.le=tZ/\Y r (X.setCells cb 0 [Zg c,Zf,Zf,Zf,Zf,Zc,Zc,Zc,.string sm,Zg le,.string p,.string q]))))):=fun X cb c sm le p q B h2 h3 h4=>by
   have t:=Ax cb [Zg c,Zf,Zf,Zf,Zf,Zc,Zc,Zc,.string sm,Zg le,.string p,.string q] 0 X;refine⟨B,⟨t.os.trans h2.os,t.tape.trans h2.tape,t.output.trans h2.output,Zm h2.size t.size,fun b hb hv=>(t.block b (Zr hb h2.size) (by simp;omega)).trans (h2.block b hb hv)⟩,c,sm,le,p,q,(Aa.dv h3).aw _ rfl,?_⟩;rcases h4 with h|⟨h5,h6,h7,r,h8,h9,tQ,tR⟩
   ·exact .inl h
   ·exact .inr ⟨h5,h6,h7,r,h8,h9,tQ,HY.o r _ _ cb tR (fun h=>by have:=HV.o.1 _ h;omega) (.inr ⟨_,h3⟩) t⟩
  go_upto_region 5 with fail;go_cut [5]from 9 to 100 (fun pc wx=>∃cb:Nat,pc=Yz cb/\Hid (w2.heap.size<=cb/\Tn V w2 wx/\∃c sm le p q,Aa wx cb [Zg c,Zf,Zf,Zf,Zf,Zc,Zc,Zc,.string sm,Zg le,.string p,.string q]/\((e.no v c p q/\sm=⟨#[]⟩/\le=0)∨(c=0/\p=⟨#[]⟩/\q=⟨#[]⟩/\∃r,e.yes v r/\r.sm=sm/\r.le=le/\Y r wx))))
  case first=>
   refine wp_region_noPanic ?_;refine wp_region_held_drew (S:=fun X=>X.cell? (Ze k 19)=some (Yz d)/\Aa X w.heap.size (Yn e.kd e.s e.nm e.num e.tx ra e.rf.length rc)) (by kernel_rfl) (show _/\_ from⟨xI,zI.o.2.1⟩) (fun hS=> ?_);refine Br 0 ⟨some 25,.move (.tmp 0),99,Cg,#[],none⟩ (Yz k) (by exact hS) ?_;try simp only[Act.put,As]
   refine Br 1 ⟨some 26,.nilCheck (.tmp 25),0,Cg,#[Ai 0],none⟩ (Yz k) (by exact hS) ?_;try simp only[Act.put,As]
   refine Br 2 ⟨some 27,.fieldAddr 171 (.tmp 26) 2,0,Cg,#[Ai 1],none⟩ (Yy k 19) (by exact hS) ?_;try simp only[Act.put,As]
   refine Di 3 ⟨some 28,.load 146 (.tmp 27),146,Cg,#[Ai 2],none⟩ (Yz d) (by exact Or.inl ⟨by rfl,fun X hX=>by have B:=hX.1;go_simp⟩) (by exact hS) ?_;try simp only[Act.put,As]
   refine Di 4 ⟨some 29,.load 67 (.tmp 3),67,Cg,#[],none⟩ (.agg (Ym e.kd e.s e.nm e.num e.tx ra e.rf.length rc)) (by exact yieldsIf_load_mid (by rfl) 67 _ rfl (w.heap.size) 0 rfl (Yn e.kd e.s e.nm e.num e.tx ra e.rf.length rc) _ (fun X h=>h.2.range) underlying67 rfl (by kernel_rfl)) (by exact hS) ?_;try simp only[Act.put,As]
   refine wpAnyH_ready (rs:=[5,6]) (by kernel_rfl) (by simp) ?_;refine AllReadyH.cons (o:=⟨some 30,.call ⟨.value (.func 106),#[.tmp 28,.tmp 29],#[146,67]⟩,90,Cg,#[Ai 3,Ai 4],none⟩) rfl (fun K a=> ?_) (AllReadyH.cons (o:=⟨some 5,.alloc 90,0,Cg,#[],none⟩) rfl (fun K a=> ?_) AllReadyH.nil)
   ·go_simp;refine(HA.o w2.drew TB).mono ?_;rintro o w3 ⟨yL,c,sm,le,p,q,rfl,H⟩;try go_simp
    refine a.out _ _ (tO.o _ _ hS yL) (fun yD=> ?_);clear a K;try simp only[Act.put,As]
    refine AM 6 ⟨some 5,.alloc 90,0,Cg,#[],none⟩ (fun K a=> ?_);go_simp;refine a.out _ _ (zE.o _ _ yD (Zy)) (fun zJ=> ?_);clear a K;try simp only[Act.put,As]
    have yU:(#[Zg c,Zf,Zf,Zf,Zf,Zc,Zc,Zc,.string sm,Zg le,.string p,.string q]:Array Value).all (·.oneCell')=true:=by simp[Value.oneCell']
    refine AM 7 ⟨none,.store 90 (.tmp 5) (.tmp 30),0,Cg,#[Ai 6,Ai 5,⟨5,.chain⟩,Ae 0,Ae 1,Ae 2,Ae 3,Ae 4,Ae 5,Ae 6],none⟩ (fun K a=> ?_);rw[if_pos (by rfl)];refine wp_store_mid 90 _ _ rfl w3.heap.size 0 #[Zg c,Zf,Zf,Zf,Zf,Zc,Zc,Zc,.string sm,Zg le,.string p,.string q] rfl rfl (Aa.new w3 z12 90).there (by kernel_rfl) yU ?_
    refine a.out _ _ (yG.o _ _ _ zJ (by have:=yL.size;simp at this;omega) (Ax _ _ _ _)) (fun zG=> ?_);clear a K;try simp only[Act.put]
    refine wpAnyH_done (by kernel_rfl) ?_ _;refine NoPanic.normal ?_;go_wp2_with fail;go_meet
    exact⟨w3.heap.size,rfl,zK.o (w3.alloc (.cells z12.toArray 90)) w3.heap.size c sm le p q yL.size ((Qk (Tn.of (V:=[]) (Below.refl _ _).drew) yL).trans ((Tn.of (V:=[]) (Zy)).mono (by simp))) (heap_alloc_new _ _) (by rcases H with h|⟨h5,h6,h7,r,h8,h9,tQ,tR⟩;exact .inl h;exact .inr ⟨h5,h6,h7,r,h8,h9,tQ,HY.o r _ _ w3.heap.size tR (fun h=>by have:=HV.o.1 _ h;have:=yL.size;simp at this;omega) (.inl (Zx)) ((Tn.of (V:=[]) (Zy)).mono (by simp))⟩)⟩
   ·go_simp;refine a.out _ _ (zE.o _ _ hS (Zy)) (fun yD=> ?_);clear a K;try simp only[Act.put,As]
    refine AM 5 ⟨some 30,.call ⟨.value (.func 106),#[.tmp 28,.tmp 29],#[146,67]⟩,90,Cg,#[Ai 3,Ai 4],none⟩ (fun K a=> ?_);go_simp;refine(HA.o _ TA).mono ?_;rintro o w3 ⟨yL,c,sm,le,p,q,rfl,H⟩;try go_simp
    refine a.out _ _ (tO.o _ _ yD yL) (fun zJ=> ?_);clear a K;try simp only[Act.put,As]
    have yU:(#[Zg c,Zf,Zf,Zf,Zf,Zc,Zc,Zc,.string sm,Zg le,.string p,.string q]:Array Value).all (·.oneCell')=true:=by simp[Value.oneCell']
    have nA:w3.heap[w2.heap.size]?=some (.cells z12.toArray 90 (0,0)):=(yL.block w2.heap.size (by simp) rB).trans (show(w2.alloc (.cells Yl 90)).heap[w2.heap.size]?=_ from heap_alloc_new _ _);refine AM 7 ⟨none,.store 90 (.tmp 5) (.tmp 30),0,Cg,#[Ai 6,Ai 5,⟨5,.chain⟩,Ae 0,Ae 1,Ae 2,Ae 3,Ae 4,Ae 5,Ae 6],none⟩ (fun K a=> ?_);rw[if_pos (by rfl)]
    refine wp_store_mid 90 _ _ rfl w2.heap.size 0 #[Zg c,Zf,Zf,Zf,Zf,Zc,Zc,Zc,.string sm,Zg le,.string p,.string q] rfl rfl (Aa.dv nA).there (by kernel_rfl) yU ?_;refine a.out _ _ (yG.o _ _ _ zJ (by have:=yL.size;simp at this;omega) (Ax _ _ _ _)) (fun zG=> ?_);clear a K;try simp only[Act.put]
    refine wpAnyH_done (by kernel_rfl) ?_ _;refine NoPanic.normal ?_;go_wp2_with fail;go_meet;exact⟨w2.heap.size,rfl,zK.o w3 w2.heap.size c sm le p q (Zx) (Qk ((Tn.of (V:=[]) bA).mono (by simp)) yL) nA H⟩
  case rest=>
  clear zE tO yG zK vG vH;revert wc;intro i hcut;obtain⟨cb,rfl,hcut⟩:=hcut;obtain⟨sW,xU,c,sm,le,p,q,xC,H⟩:=hcut.o;clear hcut HA e0 e1 e2 e3 e4 e5 xI TA TB bA rB;have z4:=xU.size;have vG:k∉V:=fun h=>by have:=HV.o.1 k h;omega
  have tU:∀j,k<=j->j∉V:=fun j hj h=>by have:=HV.o.1 j h;omega
  have yW:=Yx (Zb (Aa.same zI.o.1 (xU.block _ zI.o.1.lt vG)) (Zb (Aa.same zI.o.2.1 (xU.block _ zI.o.2.1.lt (tU _ (by omega)))) (Aa.same zI.o.2.2 (xU.block _ zI.o.2.2.lt (tU _ (by omega))))));have xX:Hid (Below lo w i):=xB.o.1.trans (xU.below (Zm zU.o xB.o.1.size) (fun b hb=>(HV.o.1 b hb).1));have xQ:Hid (w2.heap.size<=cb/\cb<i.heap.size):=⟨sW,xC.lt⟩;clear xU zI xB vG tU sW q1
  rcases H with⟨tV,rfl,rfl⟩|⟨rfl,rfl,rfl,r,hy,rfl,rfl,sV⟩
  ·have rY:(c==0)=false:=by have:=FI.code tV;simp;omega
   have xF:Hid (Gy v e c p q):=.inr ⟨vA.o,.inl tV⟩;obtain⟨u0,_⟩:=xC 0 _ rfl;obtain⟨qS,_⟩:=xC 10 _ rfl;obtain⟨qT,_⟩:=xC 11 _ rfl;clear xC tV HS HR HF HP HO HH HY vT HV vV xS;obtain⟨W9,zH⟩:∃Y,Y=i.setCells (w.heap.size+1) 0 [Zg c,Zf,Zf,Zc,Zc,Zf,Zf,Zf,Zf,Zc,Zc,Zc,Zf,Zc,Zc,Zf,Zf,Zf,Zd,Zf,.string p,.string q]:=⟨_,rfl⟩;obtain⟨yH,F⟩:∃Y,Y=W9.setCell (Ze k 0) (.int .i32 0):=⟨_,rfl⟩
   obtain⟨l0,g0,yA,zX⟩:=Iv (z:=Zf) (cs:=[Zg c,Zf,Zf,Zc,Zc,Zf,Zf,Zf,Zf,Zc,Zc,Zc,Zf,Zc,Zc,Zf,Zf,Zf,Zd,Zf,.string p,.string q]) yW.o.1 yW.o.2.2 rfl (by have:=zA.o;omega) zH F;have zS:=Yx (Zn (show(#[Zg c,Zf,Zf,Zc,Zc,Zf,Zf,Zf,Zf,Zc,Zc,Zc,Zf,Zc,Zc,Zf,Zf,Zf,Zd,Zf,.string p,.string q]:Array Value).all (·.oneCell')=true by kernel_rfl) yW.o.2.2.there)
   have yR:Hid (Below lo w yH):=xX.o.trans (zX.below (Zm zU.o xX.o.size) (by have:=zA.o;simp;omega));have HU:=Yx (Zn l0 g0);have n:=Yx yA;have yS:=Yx zH;have zR:=Yx F;clear zH F l0 g0 yA zX;go_wp2_with (refine wpList_store_mid rfl 48 _ _ rfl (w.heap.size+1) 0 #[Zg c,Zf,Zf,Zc,Zc,Zf,Zf,Zf,Zf,Zc,Zc,Zc,Zf,Zc,Zc,Zf,Zf,Zf,Zd,Zf,.string p,.string q] rfl rfl zS.o.2 (by kernel_rfl) zS.o.1 ?_);rw[←yS.o]
   refine leaves_cons (f:=104) (args:= #[Yz k]) (by simp) (by simp[go_sem]) ?_;refine(unlock_deferred JD ⟨k,0,none⟩ .returning _ HU.o.1 HU.o.2).mono ?_;rintro o u' tF ⟨rfl,rfl,rfl⟩;rw[←zR.o];exact⟨_,BL results53 _ _ (w.heap.size+1) [Zg c,Zf,Zf,Zc,Zc,Zf,Zf,Zf,Zf,Zc,Zc,Zc,Zf,Zc,Zc,Zf,Zf,Zf,Zd,Zf,.string p,.string q] _ rfl (Aa.range n.o) underlying48 rfl (by kernel_rfl),yR.o,.inl ⟨c,p,q,xF.o,rfl⟩⟩
  ·have sG:=Yx xC;have sP:Hid (Y r i):=sV;have Hy:Hid (e.yes v r):=hy;obtain⟨u0,_⟩:=xC 0 _ rfl;clear hy sV xC;go_upto_region 8 with fail;clear u0;obtain⟨w5,tY⟩:∃Y,Y=(i.alloc (.cells Xx 46)).setCells i.heap.size 0 [Zg v.wd,Zg v.aj,x,y,b0,b1,b2,b3,b4,b5,b6,c0,c1,c2,c3,c4,c5]:=⟨_,rfl⟩;have hb:=boxed (X:=i) (cs:=[Zg v.wd,Zg v.aj,x,y,b0,b1,b2,b3,b4,b5,b6,c0,c1,c2,c3,c4,c5]) (z:=Yb) (T:=46) rfl
   rw[show(i.alloc (.cells Yb.toArray 46)).setCells i.heap.size 0 [Zg v.wd,Zg v.aj,x,y,b0,b1,b2,b3,b4,b5,b6,c0,c1,c2,c3,c4,c5]=w5 from tY.symm]at hb;obtain⟨x5,xH,z5⟩:=hb;have tK:Hid ((i.alloc (.cells Xx 46)).there i.heap.size 0 17/\(#[Zg v.wd,Zg v.aj,x,y,b0,b1,b2,b3,b4,b5,b6,c0,c1,c2,c3,c4,c5]:Array Value).all (·.oneCell')=true):=⟨(Aa.new i Yb 46).there,all_oneCell_toArray vV.o⟩
   have xG:Hid (Aa w5 k [.int .i32 1,.int .u32 0,Zg v.wd,Zg v.aj,x,y,b0,b1,b2,b3,b4,b5,b6,c0,c1,c2,c3,c4,c5,Yz d]/\Aa w5 w.heap.size (Yn e.kd e.s e.nm e.num e.tx ra e.rf.length rc)/\Aa w5 (w.heap.size+1) AQ/\Aa w5 cb [Zf,Zf,Zf,Zf,Zf,Zc,Zc,Zc,.string r.sm,Zg r.le,Zd,Zd]/\Aa w5 i.heap.size [Zg v.wd,Zg v.aj,x,y,b0,b1,b2,b3,b4,b5,b6,c0,c1,c2,c3,c4,c5]):=⟨Aa.below yW.o.1 xH,Aa.below yW.o.2.1 xH,Aa.below (v:=Zf) yW.o.2.2 xH,Aa.below sG.o xH,x5⟩
   have tG:Hid (Below lo w w5):=xX.o.trans (xH.mono (Zm zU.o xX.o.size));have xT:Hid (Y r w5):=HY.o r _ _ i.heap.size sP.o (fun h=>by have:=HV.o.1 _ h;have:=zA.o;omega) (.inl (Zx)) ((Tn.of (V:=[]) xH).mono (by simp));have sN:=Yx tY;clear tY x5 xH vV xX sP HY;go_upto_region 9 with(first
    |refine wpList_load_mid rfl 46 _ rfl k 2 rfl [Zg v.wd,Zg v.aj,x,y,b0,b1,b2,b3,b4,b5,b6,c0,c1,c2,c3,c4,c5] _ (Aa.fb [.int .i32 1,.int .u32 0] [Zg v.wd,Zg v.aj,x,y,b0,b1,b2,b3,b4,b5,b6,c0,c1,c2,c3,c4,c5] [Yz d] yW.o.1) underlying46 rfl (by kernel_rfl) ?_
    |refine wpList_store_mid rfl 46 _ _ rfl i.heap.size 0 #[Zg v.wd,Zg v.aj,x,y,b0,b1,b2,b3,b4,b5,b6,c0,c1,c2,c3,c4,c5] rfl rfl tK.o.1 (by kernel_rfl) tK.o.2 ?_)
   rw[←sN.o];clear sN tK yW sG;obtain⟨xI,_⟩:=xG.o.1 19 _ rfl;go_wp2_with fail;refine(HS.o r w5 xT.o).mono ?_;rintro o w6 ⟨ta,tc,pa,pc,la,lc,rs,rfl,tS,yJ⟩;have z6:=yJ.size
   have zO:Hid (Aa w6 k [.int .i32 1,.int .u32 0,Zg v.wd,Zg v.aj,x,y,b0,b1,b2,b3,b4,b5,b6,c0,c1,c2,c3,c4,c5,Yz d]/\Aa w6 w.heap.size (Yn e.kd e.s e.nm e.num e.tx ra e.rf.length rc)/\Aa w6 (w.heap.size+1) AQ/\Aa w6 cb [Zf,Zf,Zf,Zf,Zf,Zc,Zc,Zc,.string r.sm,Zg r.le,Zd,Zd]/\Aa w6 i.heap.size [Zg v.wd,Zg v.aj,x,y,b0,b1,b2,b3,b4,b5,b6,c0,c1,c2,c3,c4,c5]):=⟨Aa.below xG.o.1 yJ,Aa.below xG.o.2.1 yJ,Aa.below (v:=Zf) xG.o.2.2.1 yJ,Aa.below xG.o.2.2.2.1 yJ,Aa.below xG.o.2.2.2.2 yJ⟩
   obtain⟨W7,vE⟩:∃Y,Y=(((((((w6.setCell (Ze (i.heap.size) 4) (Zg v.wd)).setCell (Ze (i.heap.size) 5) (Zg r.now)).setCell (Ze (i.heap.size) 6) (Zg r.given)).setCell (Ze (i.heap.size) 7) (Zg r.ae)).setCell (Ze (i.heap.size) 8) (.slice ta r.ks.length tc)).setCell (Ze (i.heap.size) 9) (.slice pa r.ps.length pc)).setCell (Ze (i.heap.size) 10) (.slice la r.ls.length lc)):=⟨_,rfl⟩
   have t7:Tn [i.heap.size] w6 W7:=by rw[vE];exact(((((((Tn.set _ _ _ _ (by simp)).trans (Tn.set _ _ _ _ (by simp))).trans (Tn.set _ _ _ _ (by simp))).trans (Tn.set _ _ _ _ (by simp))).trans (Tn.set _ _ _ _ (by simp))).trans (Tn.set _ _ _ _ (by simp))).trans (Tn.set _ _ _ _ (by simp)))
   have qP:W7.heap.size=w6.heap.size:=by rw[vE];simp
   have x7:Aa W7 i.heap.size [Zg v.wd,Zg v.aj,x,y,Zg v.wd,Zg r.now,Zg r.given,Zg r.ae,.slice ta r.ks.length tc,.slice pa r.ps.length pc,.slice la r.ls.length lc,c0,c1,c2,c3,c4,c5]:=by rw[vE];exact(((((((zO.o.2.2.2.2.set 4 _).set 5 _).set 6 _).set 7 _).set 8 _).set 9 _).set 10 _)
   have q1:=zA.o;have q2:=xQ.o;have rA:m<w.heap.size:=by have:=HV.o.1 m HV.o.2.2;omega
   have zT:=Yx (Zb (Aa.same zO.o.1 (t7.block _ zO.o.1.lt (by simp;omega))) (Zb (Aa.same zO.o.2.1 (t7.block _ zO.o.2.1.lt (by simp;omega))) (Zb (Aa.same zO.o.2.2.1 (t7.block _ zO.o.2.2.1.lt (by simp;omega))) (Zb (Aa.same zO.o.2.2.2.1 (t7.block _ zO.o.2.2.2.1.lt (by simp;omega))) x7))));have tP:=tG.o.trans (yJ.mono (Zm zU.o tG.o.size))
   have tH:Hid (Below lo w W7):=tP.trans (t7.below (Zm zU.o tP.size) (by simp;omega));have vC:Hid (AV W7 w5.heap.size (.slice ta r.ks.length tc) (.slice pa r.ps.length pc) (.slice la r.ls.length lc) rs r.ks r.ps r.ls/\∀g∈Bk (.slice ta r.ks.length tc) (.slice pa r.ps.length pc) (.slice la r.ls.length lc) rs,g<W7.heap.size):=⟨tS.al t7 (by simp;omega),fun g hg=>by have:=tS.cf g hg;omega⟩
   have xY:Hid (W7.heap[m]?=w5.heap[m]? /\m<w.heap.size):=⟨(t7.block m (by omega) (by simp;omega)).trans (yJ.block m (by omega)),rA⟩;have vS:Hid (W7.cell? (Ze d 0)=some (Zg v.wd)/\W7.cell? (Ze d 1)=some (.map (some m))):=by
    have qQ:d<w.heap.size:=by have:=HV.o.1 d HV.o.2.1;omega
    have e7:W7.heap[d]?=w5.heap[d]?:=(t7.block d (by omega) (by simp;omega)).trans (yJ.block d (by omega));obtain⟨p1,p2⟩:=vT.o r w5 xT.o;exact⟨(cell_of_block e7 _).trans p1,(cell_of_block e7 _).trans p2⟩
   obtain⟨y4,f4⟩:=zO.o.2.2.2.2 4 _ rfl;obtain⟨y5,f5⟩:=zO.o.2.2.2.2 5 _ rfl;obtain⟨y6,f6⟩:=zO.o.2.2.2.2 6 _ rfl;obtain⟨y7,f7⟩:=zO.o.2.2.2.2 7 _ rfl;obtain⟨y8,f8⟩:=zO.o.2.2.2.2 8 _ rfl;obtain⟨y9,f9⟩:=zO.o.2.2.2.2 9 _ rfl;obtain⟨qN,rV⟩:=zO.o.2.2.2.2 10 _ rfl;have sO:=Yx vE;clear vE t7 x7 tP yJ tS zO xG tG HS vT xI rA q1 q2;go_upto_region 10 with fail;rw[←sO.o]
   clear sO y4 f4 y5 f5 y6 f6 y7 f7 y8 f8 y9 f9 qN rV
   as_aux_lemma=>
   obtain⟨g0,_⟩:=zT.o.2.1 0 _ rfl;obtain⟨n1,_⟩:=zT.o.2.2.2.2 1 _ rfl;obtain⟨n4,_⟩:=zT.o.2.2.2.2 4 _ rfl;obtain⟨n5,_⟩:=zT.o.2.2.2.2 5 _ rfl;obtain⟨n6,_⟩:=zT.o.2.2.2.2 6 _ rfl;obtain⟨n7,_⟩:=zT.o.2.2.2.2 7 _ rfl;obtain⟨n8,_⟩:=zT.o.2.2.2.2 8 _ rfl;obtain⟨n9,_⟩:=zT.o.2.2.2.2 9 _ rfl;obtain⟨qG,_⟩:=zT.o.2.2.2.2 10 _ rfl;have sJ:Hid (BF W7 W7.heap.size ta r.ks):=vC.o.1.get.k
   go_cut [61]from 9 to 100 (fun bg wx=>bg=.bool (e.di v r)/\Hid (Zz W7 wx))
   case first=>
    have qR:(e.kd==1)=true:=by simp[sI.o]
    have rM:Hid (e.di v r=decide (v.aj<CH v.wd r.ks)):=by show e.di v r=_;simp[Ed.di,sI.o]
    replace HR:=Yx (HR.o r W7.drew ta tc pa pc la lc Hy.o sJ.o);refine wp_region_noPanic ?_;go_region_with (go_at_call 107;refine Calls.mono HR.o ?_;rintro o C ⟨rfl,rX⟩;have zV:Below W7.heap.size W7 C:=(Below.refl W7.heap.size W7).drew.trans rX;obtain⟨m1,_⟩:=Aa.below zT.o.2.2.2.2 zV 1 _ rfl)
    all_goals ((try refine NoPanic.normal ?_);go_wp2_with fail;go_meet;exact⟨by rw[rM.o],zV⟩)
   case rest=>
   revert wc;intro C hcut;obtain⟨rfl,zV⟩:=hcut;have z8:=zV.o.size
   have zC:Hid (Aa C k [.int .i32 1,.int .u32 0,Zg v.wd,Zg v.aj,x,y,b0,b1,b2,b3,b4,b5,b6,c0,c1,c2,c3,c4,c5,Yz d]/\Aa C w.heap.size (Yn e.kd e.s e.nm e.num e.tx ra e.rf.length rc)/\Aa C (w.heap.size+1) AQ/\Aa C cb [Zf,Zf,Zf,Zf,Zf,Zc,Zc,Zc,.string r.sm,Zg r.le,Zd,Zd]/\Aa C i.heap.size [Zg v.wd,Zg v.aj,x,y,Zg v.wd,Zg r.now,Zg r.given,Zg r.ae,.slice ta r.ks.length tc,.slice pa r.ps.length pc,.slice la r.ls.length lc,c0,c1,c2,c3,c4,c5]):=⟨Aa.below zT.o.1 zV.o,Aa.below zT.o.2.1 zV.o,Aa.below (v:=Zf) zT.o.2.2.1 zV.o,Aa.below zT.o.2.2.2.1 zV.o,Aa.below zT.o.2.2.2.2 zV.o⟩
   have xD:Hid (Below lo w C):=tH.o.trans (zV.o.mono (Zm zU.o tH.o.size));clear g0 n1 n4 n5 n6 n7 n8 n9 qG sJ zT tH HR;cases hbg:e.di v r with
   |true=>
    have xF:Hid (Gy v e 8 ⟨#[]⟩ ⟨#[]⟩):=.inr ⟨vA.o,.inr ⟨rfl,rfl,r,Hy.o,.inl ⟨hbg,rfl⟩⟩⟩;clear hbg HF HP HO HH HV xS vC xY vS zV xT;obtain⟨W9,zH⟩:∃Y,Y=C.setCells (w.heap.size+1) 0 (Xz 8):=⟨_,rfl⟩;obtain⟨yH,F⟩:∃Y,Y=W9.setCell (Ze k 0) (.int .i32 0):=⟨_,rfl⟩;obtain⟨l0,g0,yA,zX⟩:=Iv (z:=Zf) (cs:=(Xz 8)) zC.o.1 zC.o.2.2.1 rfl (by have:=zA.o;omega) zH F
    have zS:=Yx (Zn (show((Xy 8):Array Value).all (·.oneCell')=true by kernel_rfl) zC.o.2.2.1.there);have yR:Hid (Below lo w yH):=xD.o.trans (zX.below (Zm zU.o xD.o.size) (by have:=zA.o;simp;omega));have HU:=Yx (Zn l0 g0);have n:=Yx yA;have yS:=Yx zH;have zR:=Yx F;clear zH F l0 g0 yA zX
    go_wp2_with (refine wpList_store_mid rfl 48 _ _ rfl (w.heap.size+1) 0 (Xy 8) rfl rfl zS.o.2 (by kernel_rfl) zS.o.1 ?_);rw[←yS.o];refine leaves_cons (f:=104) (args:= #[Yz k]) (by simp) (by simp[go_sem]) ?_;refine(unlock_deferred JD ⟨k,0,none⟩ .returning _ HU.o.1 HU.o.2).mono ?_;rintro o u' tF ⟨rfl,rfl,rfl⟩;rw[←zR.o]
    exact⟨_,BL results53 _ _ (w.heap.size+1) (Xz 8) _ rfl (Aa.range n.o) underlying48 rfl (by kernel_rfl),yR.o,.inl ⟨8,⟨#[]⟩,⟨#[]⟩,xF.o,rfl⟩⟩
   |false=>
   have tM:Hid (¬e.gm v r):=by show ¬e.gm v r;unfold Ed.gm;rw[hbg];simp
   have tN:Hid (AV C w5.heap.size (.slice ta r.ks.length tc) (.slice pa r.ps.length pc) (.slice la r.ls.length lc) rs r.ks r.ps r.ls/\∀g∈Bk (.slice ta r.ks.length tc) (.slice pa r.ps.length pc) (.slice la r.ls.length lc) rs,g<C.heap.size):=⟨vC.o.1.below zV.o,fun g hg=>by have:=vC.o.2 g hg;omega⟩
   have vU:Hid (C.heap[m]?=w5.heap[m]? /\m<w.heap.size):=⟨(zV.o.block m (by have:=xY.o.2;have:=zA.o;omega)).trans xY.o.1,xY.o.2⟩;have tJ:Hid (C.cell? (Ze d 0)=some (Zg v.wd)/\C.cell? (Ze d 1)=some (.map (some m))):=by have e8:C.heap[d]?=W7.heap[d]?:=zV.o.block d (by have:=HV.o.1 d HV.o.2.1;have:=zA.o;omega);exact⟨(cell_of_block e8 _).trans vS.o.1,(cell_of_block e8 _).trans vS.o.2⟩
   clear hbg vC xY vS zV
   as_aux_lemma=>
   obtain⟨e0,_⟩:=zC.o.2.1 0 _ rfl;obtain⟨e1,_⟩:=zC.o.2.1 1 _ rfl;obtain⟨e2,_⟩:=zC.o.2.1 2 _ rfl;obtain⟨e3,_⟩:=zC.o.2.1 3 _ rfl;obtain⟨e4,_⟩:=zC.o.2.1 4 _ rfl;obtain⟨e5,_⟩:=zC.o.2.1 5 _ rfl;obtain⟨n0,_⟩:=zC.o.2.2.2.2 0 _ rfl;obtain⟨n2,_⟩:=zC.o.2.2.2.2 2 _ rfl;obtain⟨n3,_⟩:=zC.o.2.2.2.2 3 _ rfl;obtain⟨et,tT⟩:∃t,t=e.br v.wd:=⟨_,rfl⟩;rw[←tT]at HF HP;have sH:=Yx tT;clear tT
   go_upto_region 12 with fail
   have zE:Hid (∀X A,(Aa X w.heap.size (Yn e.kd e.s e.nm e.num e.tx ra e.rf.length rc)/\Aa X i.heap.size [Zg v.wd,Zg v.aj,x,y,Zg v.wd,Zg r.now,Zg r.given,Zg r.ae,.slice ta r.ks.length tc,.slice pa r.ps.length pc,.slice la r.ls.length lc,c0,c1,c2,c3,c4,c5])->Zz X A->Aa A w.heap.size (Yn e.kd e.s e.nm e.num e.tx ra e.rf.length rc)/\Aa A i.heap.size [Zg v.wd,Zg v.aj,x,y,Zg v.wd,Zg r.now,Zg r.given,Zg r.ae,.slice ta r.ks.length tc,.slice pa r.ps.length pc,.slice la r.ls.length lc,c0,c1,c2,c3,c4,c5]):=fun X A B h2=>⟨Aa.below B.1 h2,Aa.below B.2 h2⟩
   have yG:Hid (∀X A lb,(Aa X w.heap.size (Yn e.kd e.s e.nm e.num e.tx ra e.rf.length rc)/\Aa X i.heap.size [Zg v.wd,Zg v.aj,x,y,Zg v.wd,Zg r.now,Zg r.given,Zg r.ae,.slice ta r.ks.length tc,.slice pa r.ps.length pc,.slice la r.ls.length lc,c0,c1,c2,c3,c4,c5])->C.heap.size<=lb->Tn [lb] X A->Aa A w.heap.size (Yn e.kd e.s e.nm e.num e.tx ra e.rf.length rc)/\Aa A i.heap.size [Zg v.wd,Zg v.aj,x,y,Zg v.wd,Zg r.now,Zg r.given,Zg r.ae,.slice ta r.ks.length tc,.slice pa r.ps.length pc,.slice la r.ls.length lc,c0,c1,c2,c3,c4,c5]):=fun X A lb B hc h2=>by
    have q1:=zA.o;have q2:=zC.o.2.2.2.2.lt;exact⟨Aa.same B.1 (h2.block _ B.1.lt (by simp;omega)),Aa.same B.2 (h2.block _ B.2.lt (by simp;omega))⟩
   have bA:Below C.heap.size C (C.alloc (.cells #[Zc,Zc] 38)).drew:=(Zy).drew;have xP:Hid (∀X,Zz C X->Below lo w X):=fun X hX=>xD.o.trans (hX.mono (Zm zU.o xD.o.size));go_cut [7,8]from 9 to 100 (fun pl nc wx=>∃(lb:Nat) (I:Zk) (sn J:Nat) (N:Zk) (G O:Nat) (c:Int),pl=Yz lb/\nc=Zg c/\Hid (Aa wx lb [.slice I sn J,.slice N G O]/\C.heap.size<=lb/\Zz C wx/\Lz v et C.heap.size wx I sn J N G O c))
   case first=>
    refine wp_region_noPanic ?_;refine wp_region_held_drew (S:=fun X=>Aa X w.heap.size (Yn e.kd e.s e.nm e.num e.tx ra e.rf.length rc)/\Aa X i.heap.size [Zg v.wd,Zg v.aj,x,y,Zg v.wd,Zg r.now,Zg r.given,Zg r.ae,.slice ta r.ks.length tc,.slice pa r.ps.length pc,.slice la r.ls.length lc,c0,c1,c2,c3,c4,c5]) (by kernel_rfl) (show _/\_ from⟨zC.o.2.1,zC.o.2.2.2.2⟩) (fun hS=> ?_)
    refine Br 0 ⟨some 64,.fieldAddr 46 (.tmp 6) 2,0,AD,#[],none⟩ (Yy i.heap.size 2) (by exact hS) ?_;try simp only[Act.put,As]
    refine Di 1 ⟨some 65,.load 38 (.tmp 64),38,AD,#[Ai 0],none⟩ (.agg #[x,y]) (by exact yieldsIf_load_mid (by rfl) 38 _ rfl (i.heap.size) 2 rfl [x,y] _ (fun X h=>Aa.fb [Zg v.wd,Zg v.aj] [x,y] _ h.2) underlying38 rfl (by kernel_rfl)) (by exact hS) ?_;try simp only[Act.put,As]
    refine Di 2 ⟨some 66,.load 67 (.tmp 3),67,AD,#[],none⟩ (.agg (Ym e.kd e.s e.nm e.num e.tx ra e.rf.length rc)) (by exact yieldsIf_load_mid (by rfl) 67 _ rfl (w.heap.size) 0 rfl (Yn e.kd e.s e.nm e.num e.tx ra e.rf.length rc) _ (fun X h=>h.1.range) underlying67 rfl (by kernel_rfl)) (by exact hS) ?_;try simp only[Act.put,As]
    refine Br 3 ⟨some 67,.fieldAddr 46 (.tmp 6) 0,0,AD,#[],none⟩ (Yz i.heap.size) (by exact hS) ?_;try simp only[Act.put,As]
    refine Di 4 ⟨some 68,.load 3 (.tmp 67),3,AD,#[Ai 3],none⟩ (Zg v.wd) (by exact Or.inl ⟨by rfl,fun X hX=>by have B:=(hX.2 0 _ rfl).1;go_simp⟩) (by exact hS) ?_;try simp only[Act.put,As]
    refine wpAnyH_ready (rs:=[5,10]) (by kernel_rfl) (by simp) ?_;refine AllReadyH.cons (o:=⟨some 69,.call ⟨.value (.func 109),#[.tmp 66,.tmp 68],#[67,3]⟩,9,AD,#[Ai 2,Ai 4],none⟩) rfl (fun K a=> ?_) (AllReadyH.cons (o:=⟨some 7,.alloc 38,0,AD,#[],none⟩) rfl (fun K a=> ?_) AllReadyH.nil)
    ·go_simp;refine(HF.o C.drew (xP.o _ (Below.refl _ _).drew)).mono ?_;rintro o w9 ⟨rfl,xJ⟩;try go_simp
     refine a.out _ _ (zE.o _ _ hS xJ) (fun yD=> ?_);clear a K;try simp only[Act.put,As]
     have zF:Below C.heap.size C w9:=(Below.refl C.heap.size C).drew.trans xJ;refine wpAnyH_ready (rs:=[6,10]) (by kernel_rfl) (by simp) ?_;refine AllReadyH.cons (o:=⟨some 70,.call ⟨.value (.func 108),#[.tmp 65,.tmp 69],#[38,9]⟩,173,AD,#[Ai 1,Ai 5,⟨5,.chain⟩],none⟩) rfl (fun K a=> ?_) (AllReadyH.cons (o:=⟨some 7,.alloc 38,0,AD,#[],none⟩) rfl (fun K a=> ?_) AllReadyH.nil)
     ·go_simp;refine(HP.o w9 (xP.o _ zF)).mono ?_;rintro o zB ⟨zM,I,sn,J,N,G,O,c,rfl,H⟩;try go_simp
      refine a.out _ _ (zE.o _ _ yD zM) (fun zJ=> ?_);clear a K;try simp only[Act.put,As]
      have E:=zF.trans (zM.mono zF.size);have yB:(#[.slice I sn J,.slice N G O]:Array Value).all (·.oneCell')=true:=by simp[Value.oneCell']
      refine Br 7 ⟨some 63,.move (.tmp 70),173,AD,#[Ai 6],none⟩ (.tuple #[.agg #[.slice I sn J,.slice N G O],Zg c]) (by exact zJ) ?_;try simp only[Act.put,As]
      refine Br 8 ⟨some 71,.extract (.tmp 63) 0,38,AD,#[Ai 7],none⟩ (.agg #[.slice I sn J,.slice N G O]) (by exact zJ) ?_;try simp only[Act.put,As]
      refine Br 9 ⟨some 72,.extract (.tmp 63) 1,3,AD,#[Ai 7,{on:=11,ground:=.gcOnly Departure.lateStores}],none⟩ (Zg c) (by exact zJ) ?_;try simp only[Act.put,As]
      refine AM 10 ⟨some 7,.alloc 38,0,AD,#[],none⟩ (fun K a=> ?_);go_simp;refine a.out _ _ (zE.o _ _ zJ (Zy)) (fun zG=> ?_);clear a K;try simp only[Act.put,As]
      refine AM 11 ⟨none,.store 38 (.tmp 7) (.tmp 71),0,AD,#[Ai 10,Ai 8,⟨6,.chain⟩,Ae 0,Ae 1,Ae 2,Ae 3,Ae 4,Ae 5,Ae 6,Ae 7,Ae 8,{on:=9,ground:=.textOnly Departure.lateStores},Ae 10],none⟩ (fun K a=> ?_);rw[if_pos (by rfl)];refine wp_store_mid 38 _ _ rfl zB.heap.size 0 #[.slice I sn J,.slice N G O] rfl rfl (Aa.new zB [Zc,Zc] 38).there (by kernel_rfl) yB ?_
      refine a.out _ _ (yG.o _ _ _ zG (by have:=E.size;have:=zF.size;omega) (Ax _ _ _ _)) (fun zZ=> ?_);clear a K;try simp only[Act.put]
      refine Br 12 ⟨some 8,.assign (.tmp 72),3,AD,#[Ai 9,⟨11,.chain⟩,Ae 0,Ae 1,Ae 2,Ae 3,Ae 4,Ae 5,Ae 6,Ae 7,Ae 8,Ae 9,Ae 10,Ae 11],none⟩ (Zg c) (by exact zZ) ?_;try simp only[Act.put,As]
      refine wpAnyH_done (by kernel_rfl) ?_ _;refine NoPanic.normal ?_;go_wp2_with fail;go_meet;exact⟨zB.heap.size,I,sn,J,N,G,O,c,rfl,rfl,WU E zF.size H⟩
     ·go_simp;refine a.out _ _ (zE.o _ _ yD (Zy)) (fun zJ=> ?_);clear a K;try simp only[Act.put,As]
      have bB:Below w9.heap.size w9 (w9.alloc (.cells #[Zc,Zc] 38)):=(Zy);refine AM 6 ⟨some 70,.call ⟨.value (.func 108),#[.tmp 65,.tmp 69],#[38,9]⟩,173,AD,#[Ai 1,Ai 5,⟨5,.chain⟩],none⟩ (fun K a=> ?_);go_simp;refine(HP.o _ (xP.o _ (zF.trans (bB.mono zF.size)))).mono ?_;rintro o zB ⟨zM,I,sn,J,N,G,O,c,rfl,H⟩;try go_simp
      refine a.out _ _ (zE.o _ _ zJ zM) (fun zG=> ?_);clear a K;try simp only[Act.put,As]
      have E:=(zF.trans (bB.mono zF.size)).trans (zM.mono (Zm zF.size bB.size));have nB:zB.heap[w9.heap.size]?=some (.cells [Zc,Zc].toArray 38 (0,0)):=(zM.block w9.heap.size (by simp)).trans (heap_alloc_new _ _);have yB:(#[.slice I sn J,.slice N G O]:Array Value).all (·.oneCell')=true:=by simp[Value.oneCell']
      refine Br 7 ⟨some 63,.move (.tmp 70),173,AD,#[Ai 6],none⟩ (.tuple #[.agg #[.slice I sn J,.slice N G O],Zg c]) (by exact zG) ?_;try simp only[Act.put,As]
      refine Br 8 ⟨some 71,.extract (.tmp 63) 0,38,AD,#[Ai 7],none⟩ (.agg #[.slice I sn J,.slice N G O]) (by exact zG) ?_;try simp only[Act.put,As]
      refine Br 9 ⟨some 72,.extract (.tmp 63) 1,3,AD,#[Ai 7,{on:=11,ground:=.gcOnly Departure.lateStores}],none⟩ (Zg c) (by exact zG) ?_;try simp only[Act.put,As]
      refine AM 11 ⟨none,.store 38 (.tmp 7) (.tmp 71),0,AD,#[Ai 10,Ai 8,⟨6,.chain⟩,Ae 0,Ae 1,Ae 2,Ae 3,Ae 4,Ae 5,Ae 6,Ae 7,Ae 8,{on:=9,ground:=.textOnly Departure.lateStores},Ae 10],none⟩ (fun K a=> ?_);rw[if_pos (by rfl)];refine wp_store_mid 38 _ _ rfl w9.heap.size 0 #[.slice I sn J,.slice N G O] rfl rfl (Aa.dv nB).there (by kernel_rfl) yB ?_
      refine a.out _ _ (yG.o _ _ _ zG (by have:=E.size;have:=zF.size;omega) (Ax _ _ _ _)) (fun zZ=> ?_);clear a K;try simp only[Act.put]
      refine Br 12 ⟨some 8,.assign (.tmp 72),3,AD,#[Ai 9,⟨11,.chain⟩,Ae 0,Ae 1,Ae 2,Ae 3,Ae 4,Ae 5,Ae 6,Ae 7,Ae 8,Ae 9,Ae 10,Ae 11],none⟩ (Zg c) (by exact zZ) ?_;try simp only[Act.put,As]
      refine wpAnyH_done (by kernel_rfl) ?_ _;refine NoPanic.normal ?_;go_wp2_with fail;go_meet;exact⟨w9.heap.size,I,sn,J,N,G,O,c,rfl,rfl,TL (Aa.dv nB) E zF.size (by simp) (Zm zF.size (by simp)) H⟩
    ·go_simp;refine a.out _ _ (zE.o _ _ hS (Zy)) (fun yD=> ?_);clear a K;try simp only[Act.put,As]
     refine AM 5 ⟨some 69,.call ⟨.value (.func 109),#[.tmp 66,.tmp 68],#[67,3]⟩,9,AD,#[Ai 2,Ai 4],none⟩ (fun K a=> ?_);go_simp;refine(HF.o _ (xP.o _ bA)).mono ?_;rintro o w9 ⟨rfl,xJ⟩;try go_simp
     refine a.out _ _ (zE.o _ _ yD xJ) (fun zJ=> ?_);clear a K;try simp only[Act.put,As]
     have zF:Below C.heap.size C w9:=bA.trans (xJ.mono bA.size);have rF:C.heap.size<w9.heap.size:=by have:=xJ.size;simp at this;omega
     refine AM 6 ⟨some 70,.call ⟨.value (.func 108),#[.tmp 65,.tmp 69],#[38,9]⟩,173,AD,#[Ai 1,Ai 5,⟨5,.chain⟩],none⟩ (fun K a=> ?_);go_simp;refine(HP.o w9 (xP.o _ zF)).mono ?_;rintro o zB ⟨zM,I,sn,J,N,G,O,c,rfl,H⟩;try go_simp
     refine a.out _ _ (zE.o _ _ zJ zM) (fun zG=> ?_);clear a K;try simp only[Act.put,As]
     have E:=zF.trans (zM.mono zF.size);have nA:zB.heap[C.heap.size]?=some (.cells [Zc,Zc].toArray 38 (0,0)):=(zM.block C.heap.size rF).trans ((xJ.block C.heap.size (by simp)).trans (show(C.alloc (.cells #[Zc,Zc] 38)).heap[C.heap.size]?=_ from heap_alloc_new _ _));have yB:(#[.slice I sn J,.slice N G O]:Array Value).all (·.oneCell')=true:=by simp[Value.oneCell']
     refine Br 7 ⟨some 63,.move (.tmp 70),173,AD,#[Ai 6],none⟩ (.tuple #[.agg #[.slice I sn J,.slice N G O],Zg c]) (by exact zG) ?_;try simp only[Act.put,As]
     refine Br 8 ⟨some 71,.extract (.tmp 63) 0,38,AD,#[Ai 7],none⟩ (.agg #[.slice I sn J,.slice N G O]) (by exact zG) ?_;try simp only[Act.put,As]
     refine Br 9 ⟨some 72,.extract (.tmp 63) 1,3,AD,#[Ai 7,{on:=11,ground:=.gcOnly Departure.lateStores}],none⟩ (Zg c) (by exact zG) ?_;try simp only[Act.put,As]
     refine AM 11 ⟨none,.store 38 (.tmp 7) (.tmp 71),0,AD,#[Ai 10,Ai 8,⟨6,.chain⟩,Ae 0,Ae 1,Ae 2,Ae 3,Ae 4,Ae 5,Ae 6,Ae 7,Ae 8,{on:=9,ground:=.textOnly Departure.lateStores},Ae 10],none⟩ (fun K a=> ?_);rw[if_pos (by rfl)];refine wp_store_mid 38 _ _ rfl C.heap.size 0 #[.slice I sn J,.slice N G O] rfl rfl (Aa.dv nA).there (by kernel_rfl) yB ?_
     refine a.out _ _ (yG.o _ _ _ zG (by have:=E.size;have:=zF.size;omega) (Ax _ _ _ _)) (fun zZ=> ?_);clear a K;try simp only[Act.put]
     refine Br 12 ⟨some 8,.assign (.tmp 72),3,AD,#[Ai 9,⟨11,.chain⟩,Ae 0,Ae 1,Ae 2,Ae 3,Ae 4,Ae 5,Ae 6,Ae 7,Ae 8,Ae 9,Ae 10,Ae 11],none⟩ (Zg c) (by exact zZ) ?_;try simp only[Act.put,As]
     refine wpAnyH_done (by kernel_rfl) ?_ _;refine NoPanic.normal ?_;go_wp2_with fail;go_meet;exact⟨C.heap.size,I,sn,J,N,G,O,c,rfl,rfl,TL (Aa.dv nA) E (Zx) rF zF.size H⟩
   case rest=>
   revert wc;intro zB hcut;obtain⟨lb,I,sn,J,N,G,O,c,rfl,rfl,hcut⟩:=hcut;clear e0 e1 e2 e3 e4 e5 n0 n2 n3 HF HP bA xP zE yG;obtain⟨xL,sZ,E,H⟩:=hcut.o;have qO:=E.size
   have n:Hid (Aa zB k [.int .i32 1,.int .u32 0,Zg v.wd,Zg v.aj,x,y,b0,b1,b2,b3,b4,b5,b6,c0,c1,c2,c3,c4,c5,Yz d]/\Aa zB w.heap.size (Yn e.kd e.s e.nm e.num e.tx ra e.rf.length rc)/\Aa zB (w.heap.size+1) AQ/\Aa zB cb [Zf,Zf,Zf,Zf,Zf,Zc,Zc,Zc,.string r.sm,Zg r.le,Zd,Zd]/\Aa zB i.heap.size [Zg v.wd,Zg v.aj,x,y,Zg v.wd,Zg r.now,Zg r.given,Zg r.ae,.slice ta r.ks.length tc,.slice pa r.ps.length pc,.slice la r.ls.length lc,c0,c1,c2,c3,c4,c5]):=⟨Aa.below zC.o.1 E,Aa.below zC.o.2.1 E,Aa.below (v:=Zf) zC.o.2.2.1 E,Aa.below zC.o.2.2.2.1 E,Aa.below zC.o.2.2.2.2 E⟩
   have yN:Hid (Below lo w zB):=xD.o.trans (E.mono (Zm zU.o xD.o.size));have tA:=Yx (Zb xL sZ);have xA:Hid (AV zB w5.heap.size (.slice ta r.ks.length tc) (.slice pa r.ps.length pc) (.slice la r.ls.length lc) rs r.ks r.ps r.ls/\∀g∈Bk (.slice ta r.ks.length tc) (.slice pa r.ps.length pc) (.slice la r.ls.length lc) rs,g<C.heap.size):=⟨tN.o.1.below E,tN.o.2⟩
   have yZ:Hid (zB.heap[m]?=w5.heap[m]? /\m<w.heap.size):=⟨(E.block m (by have:=vU.o.2;have:=zA.o;omega)).trans vU.o.1,vU.o.2⟩;have yY:Hid (zB.cell? (Ze d 0)=some (Zg v.wd)/\zB.cell? (Ze d 1)=some (.map (some m))):=by have e8:zB.heap[d]?=C.heap[d]?:=E.block d (by have:=HV.o.1 d HV.o.2.1;have:=zA.o;omega);exact⟨(cell_of_block e8 _).trans tJ.o.1,(cell_of_block e8 _).trans tJ.o.2⟩
   clear hcut xL sZ E zC xD tN vU tJ;rcases H with⟨xO,rY⟩|⟨xN,rfl,rfl,rD,hs,hu,vH⟩
   ·have xF:Hid (Gy v e 9 ⟨#[]⟩ ⟨#[]⟩):=.inr ⟨vA.o,.inr ⟨rfl,rfl,r,Hy.o,.inr ⟨tM.o,xO,rfl⟩⟩⟩;clear xO HO HH HV xS xA yZ yY xT tA;obtain⟨W9,zH⟩:∃Y,Y=zB.setCells (w.heap.size+1) 0 (Xz 9):=⟨_,rfl⟩;obtain⟨yH,F⟩:∃Y,Y=W9.setCell (Ze k 0) (.int .i32 0):=⟨_,rfl⟩;obtain⟨l0,g0,yA,zX⟩:=Iv (z:=Zf) (cs:=(Xz 9)) n.o.1 n.o.2.2.1 rfl (by have:=zA.o;omega) zH F
    have zS:=Yx (Zn (show((Xy 9):Array Value).all (·.oneCell')=true by kernel_rfl) n.o.2.2.1.there);have yR:Hid (Below lo w yH):=yN.o.trans (zX.below (Zm zU.o yN.o.size) (by have:=zA.o;simp;omega));have HU:=Yx (Zn l0 g0);have n:=Yx yA;have yS:=Yx zH;have zR:=Yx F;clear zH F l0 g0 yA zX
    go_wp2_with (refine wpList_store_mid rfl 48 _ _ rfl (w.heap.size+1) 0 (Xy 9) rfl rfl zS.o.2 (by kernel_rfl) zS.o.1 ?_);rw[←yS.o];refine leaves_cons (f:=104) (args:= #[Yz k]) (by simp) (by simp[go_sem]) ?_;refine(unlock_deferred JD ⟨k,0,none⟩ .returning _ HU.o.1 HU.o.2).mono ?_;rintro o u' tF ⟨rfl,rfl,rfl⟩;rw[←zR.o]
    exact⟨_,BL results53 _ _ (w.heap.size+1) (Xz 9) _ rfl (Aa.range n.o) underlying48 rfl (by kernel_rfl),yR.o,.inl ⟨9,⟨#[]⟩,⟨#[]⟩,xF.o,rfl⟩⟩
   have vQ:Hid (Jy v e r):=⟨vA.o,Hy.o,tM.o,xN⟩;have xR:=Yx (Zb hs (Zb hu vH));have rQ:Hid (G=(v.tt++[et]).length):=rD;clear hs hu vH rD xN tM vA
   as_aux_lemma=>
   obtain⟨l0,_⟩:=tA.o.1 0 _ rfl;obtain⟨l1,_⟩:=tA.o.1 1 _ rfl;obtain⟨n2,f2⟩:=n.o.2.2.2.2 2 _ rfl;obtain⟨n3,f3⟩:=n.o.2.2.2.2 3 _ rfl;obtain⟨l,yP⟩:∃Y,Y=(zB.setCell (Ze (i.heap.size) 2) (.slice I v.ss.length J)).setCell (Ze (i.heap.size) 3) (.slice N G O):=⟨_,rfl⟩;have yI:Tn [i.heap.size] zB l:=by rw[yP];exact(Tn.set _ _ _ _ (by simp)).trans (Tn.set _ _ _ _ (by simp))
   have sF:l.heap.size=zB.heap.size:=by rw[yP];simp
   have rI:Aa l i.heap.size [Zg v.wd,Zg v.aj,.slice I v.ss.length J,.slice N G O,Zg v.wd,Zg r.now,Zg r.given,Zg r.ae,.slice ta r.ks.length tc,.slice pa r.ps.length pc,.slice la r.ls.length lc,c0,c1,c2,c3,c4,c5]:=by rw[yP];exact(n.o.2.2.2.2.set 2 _).set 3 _
   have q1:=zA.o;have q2:=yZ.o.2;have q3:=xQ.o;have s:=Yx (Zb (Aa.same n.o.1 (yI.block _ n.o.1.lt (by simp;omega))) (Zb (Aa.same n.o.2.1 (yI.block _ n.o.2.1.lt (by simp;omega))) (Zb (Aa.same n.o.2.2.1 (yI.block _ n.o.2.2.1.lt (by simp;omega))) (Zb (Aa.same n.o.2.2.2.1 (yI.block _ n.o.2.2.2.1.lt (by simp;omega))) rI))))
   have yO:Hid (Below lo w l):=yN.o.trans (yI.below (Zm zU.o yN.o.size) (by simp;omega));have vO:Hid (AV l w5.heap.size (.slice ta r.ks.length tc) (.slice pa r.ps.length pc) (.slice la r.ls.length lc) rs r.ks r.ps r.ls):=xA.o.1.al yI (by simp;omega);have tI:=Yx xA.o.2
   have zY:Hid (Al l C.heap.size (.slice I v.ss.length J) v.ss/\Al l C.heap.size (.slice N G O) (v.tt++[et])/\(∀g,Ao (.slice I v.ss.length J)=some g->Ao (.slice N G O)≠some g)):=⟨xR.o.1.al yI (fun g hg=>by have:=(xR.o.1.cg hg).1;simp;omega),xR.o.2.1.al yI (fun g hg=>by have:=(xR.o.2.1.cg hg).1;simp;omega),xR.o.2.2⟩
   have vM:Hid (l.heap[m]?=w5.heap[m]?):=(yI.block m (by omega) (by simp;omega)).trans yZ.o.1;have vL:Hid (l.cell? (Ze d 0)=some (Zg v.wd)/\l.cell? (Ze d 1)=some (.map (some m))):=by have e8:l.heap[d]?=zB.heap[d]?:=yI.block d (by have:=HV.o.1 d HV.o.2.1;omega) (by have:=HV.o.1 d HV.o.2.1;simp;omega);exact⟨(cell_of_block e8 _).trans yY.o.1,(cell_of_block e8 _).trans yY.o.2⟩
   have vP:=Yx yP;clear yP yI rI q1 q2 q3 n yN xA xR yZ yY tA;go_upto_region 16 with fail;rw[←vP.o];clear vP l0 l1 n2 f2 n3 f3
   as_aux_lemma=>
   obtain⟨xI,_⟩:=s.o.1 19 _ rfl;obtain⟨d0,d1⟩:=vL.o;obtain⟨qH,_⟩:=s.o.2.2.2.2 11 _ rfl;obtain⟨qI,_⟩:=s.o.2.2.2.2 12 _ rfl;obtain⟨qJ,_⟩:=s.o.2.2.2.2 13 _ rfl;obtain⟨qK,_⟩:=s.o.2.2.2.2 14 _ rfl;obtain⟨qL,_⟩:=s.o.2.2.2.2 15 _ rfl;obtain⟨qM,_⟩:=s.o.2.2.2.2 16 _ rfl;obtain⟨u8,_⟩:=s.o.2.2.2.1 8 _ rfl;obtain⟨e1,_⟩:=s.o.2.1 1 _ rfl
   have sE:(k<l.heap.size/\d<l.heap.size)/\(i.heap.size<l.heap.size/\cb<l.heap.size)/\w.heap.size<l.heap.size:=by have:=zA.o;have:=xQ.o;have:=HV.o.1 d HV.o.2.1;have:=s.o.2.2.2.2.lt;have:=s.o.2.2.2.1.lt;have:=s.o.2.1.lt;have:=s.o.1.lt;exact⟨⟨by omega,by omega⟩,⟨by omega,by omega⟩,by omega⟩
   obtain⟨⟨qB,qC⟩,⟨qD,qE⟩,qF⟩:=sE;have sQ:Hid (w5.heap.size<=C.heap.size/\C.heap.size<=l.heap.size/\i.heap.size<w5.heap.size/\w.heap.size+2<=i.heap.size):=⟨by omega,by omega,by omega,by have:=zA.o;have:=xQ.o;omega⟩;clear sF qO z8 qP z6 z5 z4 z2;have yV:Below l.heap.size l (l.drew.alloc (.cells #[.string r.sm,.string e.s] 9)):=((Below.refl _ _).drew).alloc (Zx) _
   obtain⟨hl,tD⟩:∃t,t=e.held r:=⟨_,rfl⟩;have vW:Hid ((if r.sm=⟨#[]⟩then e.s else r.sm)=hl):=by show _=_;rw[tD];exact HO.o r Hy.o
   replace HH:=Yx (HH.o r w5 (l.drew.alloc (.cells #[.string r.sm,.string e.s] 9)) xT.o Hy.o (yO.o.trans (yV.mono (Zm zU.o yO.o.size))) ((yV.block m (by have:=HV.o.1 m HV.o.2.2;have:=zA.o;omega)).trans vM.o));rw[←tD]at HH;obtain⟨xM,tX⟩:∃t,t=shQ v.ph r.ks v.qs v.ms hl:=⟨_,rfl⟩;rw[←tX]at HH;obtain⟨qn,tW⟩:∃t,t=xM.length:=⟨_,rfl⟩;rw[←tW]at HH
   have sK:Hid (xM=shQ v.ph r.ks v.qs v.ms (e.held r)):=by show xM=_;rw[tX,tD]
   have rP:Hid (qn=xM.length):=tW;clear tD tX tW HO vM vL xT
   go_cut []from 9 to 100 (fun wx=>∃(qa:Zk) (qc:Nat) (ma:Zk) (mc:Nat),Hid (Aa wx i.heap.size [Zg v.wd,Zg v.aj,.slice I v.ss.length J,.slice N G O,Zg v.wd,Zg r.now,Zg r.given,Zg r.ae,.slice ta r.ks.length tc,.slice pa r.ps.length pc,.slice la r.ls.length lc,Zg v.ph,.slice qa qn qc,.slice ma v.ms.length mc,Zg v.ag,Zg v.at_,Zg v.ro]/\Tn [i.heap.size] l wx/\Al wx l.heap.size (.slice qa qn qc) xM/\Al wx l.heap.size (.slice ma v.ms.length mc) v.ms/\∀g,Ao (.slice qa qn qc)=some g->Ao (.slice ma v.ms.length mc)≠some g))
   case first=>
    have zE:Hid (∀X A,((X.cell? (Ze k 19)=some (Yz d)/\X.cell? (Ze d 0)=some (Zg v.wd)/\X.cell? (Ze d 1)=some (.map (some m)))/\X.cell? (Ze cb 8)=some (.string r.sm)/\X.cell? (Ze (w.heap.size) 1)=some (.string e.s))->Zz X A->(A.cell? (Ze k 19)=some (Yz d)/\A.cell? (Ze d 0)=some (Zg v.wd)/\A.cell? (Ze d 1)=some (.map (some m)))/\A.cell? (Ze cb 8)=some (.string r.sm)/\A.cell? (Ze (w.heap.size) 1)=some (.string e.s)):=fun X A B h2=>⟨⟨(h2.cell (World.block_lt_of_cell? X _ B.1.1)).trans B.1.1,(h2.cell (World.block_lt_of_cell? X _ B.1.2.1)).trans B.1.2.1,(h2.cell (World.block_lt_of_cell? X _ B.1.2.2)).trans B.1.2.2⟩,(h2.cell (World.block_lt_of_cell? X _ B.2.1)).trans B.2.1,(h2.cell (World.block_lt_of_cell? X _ B.2.2)).trans B.2.2⟩
    have yG:Hid (∀X A,((X.cell? (Ze k 19)=some (Yz d)/\X.cell? (Ze d 0)=some (Zg v.wd)/\X.cell? (Ze d 1)=some (.map (some m)))/\X.cell? (Ze cb 8)=some (.string r.sm)/\X.cell? (Ze (w.heap.size) 1)=some (.string e.s))->Tn [i.heap.size] X A->(A.cell? (Ze k 19)=some (Yz d)/\A.cell? (Ze d 0)=some (Zg v.wd)/\A.cell? (Ze d 1)=some (.map (some m)))/\A.cell? (Ze cb 8)=some (.string r.sm)/\A.cell? (Ze (w.heap.size) 1)=some (.string e.s)):=fun X A B h2=>by
     have rG:=sQ.o;have q1:=zA.o;have q3:=xQ.o;have q4:=HV.o.1 d HV.o.2.1;have e1:=fun j=>cell_of_block (h2.block k (World.block_lt_of_cell? X _ B.1.1) (by simp;omega)) j;have e2:=fun j=>cell_of_block (h2.block d (World.block_lt_of_cell? X _ B.1.2.1) (by simp;omega)) j;have e3:=fun j=>cell_of_block (h2.block cb (World.block_lt_of_cell? X _ B.2.1) (by simp;omega)) j
     have e4:=fun j=>cell_of_block (h2.block w.heap.size (World.block_lt_of_cell? X _ B.2.2) (by simp;omega)) j;exact⟨⟨(e1 _).trans B.1.1,(e2 _).trans B.1.2.1,(e2 _).trans B.1.2.2⟩,(e3 _).trans B.2.1,(e4 _).trans B.2.2⟩
    have zK:Hid (∀zP qa qc ma mc,Below (l.drew.alloc (.cells #[.string r.sm,.string e.s] 9)).heap.size (l.drew.alloc (.cells #[.string r.sm,.string e.s] 9)) zP->Al zP (l.drew.alloc (.cells #[.string r.sm,.string e.s] 9)).heap.size (.slice qa qn qc) xM->Al zP (l.drew.alloc (.cells #[.string r.sm,.string e.s] 9)).heap.size (.slice ma v.ms.length mc) v.ms->(∀g,Ao (.slice qa qn qc)=some g->Ao (.slice ma v.ms.length mc)≠some g)->zP.there i.heap.size 11 6/\Hid (Aa (zP.setCells i.heap.size 11 (Yj v.ph qa qn qc ma v.ms.length mc v.ag v.at_ v.ro)) i.heap.size [Zg v.wd,Zg v.aj,.slice I v.ss.length J,.slice N G O,Zg v.wd,Zg r.now,Zg r.given,Zg r.ae,.slice ta r.ks.length tc,.slice pa r.ps.length pc,.slice la r.ls.length lc,Zg v.ph,.slice qa qn qc,.slice ma v.ms.length mc,Zg v.ag,Zg v.at_,Zg v.ro]/\Tn [i.heap.size] l (zP.setCells i.heap.size 11 (Yj v.ph qa qn qc ma v.ms.length mc v.ag v.at_ v.ro))/\Al (zP.setCells i.heap.size 11 (Yj v.ph qa qn qc ma v.ms.length mc v.ag v.at_ v.ro)) l.heap.size (.slice qa qn qc) xM/\Al (zP.setCells i.heap.size 11 (Yj v.ph qa qn qc ma v.ms.length mc v.ag v.at_ v.ro)) l.heap.size (.slice ma v.ms.length mc) v.ms/\∀g,Ao (.slice qa qn qc)=some g->Ao (.slice ma v.ms.length mc)≠some g)):=fun zP qa qc ma mc zN hq hm yK=>by
     have sS:=yV.trans (zN.mono yV.size);have rJ:=Aa.below s.o.2.2.2.2 sS;have yE:=Ax i.heap.size (Yj v.ph qa qn qc ma v.ms.length mc v.ag v.at_ v.ro) 11 zP;have hz:=yV.size
     exact⟨Aa.dq [Zg v.wd,Zg v.aj,.slice I v.ss.length J,.slice N G O,Zg v.wd,Zg r.now,Zg r.given,Zg r.ae,.slice ta r.ks.length tc,.slice pa r.ps.length pc,.slice la r.ls.length lc] [c0,c1,c2,c3,c4,c5] [] rJ,Aa.dm (Yj v.ph qa qn qc ma v.ms.length mc v.ag v.at_ v.ro) [Zg v.wd,Zg v.aj,.slice I v.ss.length J,.slice N G O,Zg v.wd,Zg r.now,Zg r.given,Zg r.ae,.slice ta r.ks.length tc,.slice pa r.ps.length pc,.slice la r.ls.length lc] [c0,c1,c2,c3,c4,c5] [] zP rJ rfl,((Tn.of (V:=[]) sS).mono (by simp)).trans yE,(hq.mono hz).al yE (fun g hg=>by have:=(hq.cg hg).1;simp;omega),(hm.mono hz).al yE (fun g hg=>by have:=(hm.cg hg).1;simp;omega),yK⟩
    refine wp_region_noPanic ?_;refine wp_region_held_drew (S:=fun X=>(X.cell? (Ze k 19)=some (Yz d)/\X.cell? (Ze d 0)=some (Zg v.wd)/\X.cell? (Ze d 1)=some (.map (some m)))/\X.cell? (Ze cb 8)=some (.string r.sm)/\X.cell? (Ze (w.heap.size) 1)=some (.string e.s)) (by kernel_rfl) (show _/\_ from⟨⟨xI,d0,d1⟩,u8,e1⟩) (fun hS=> ?_)
    refine Br 0 ⟨some 78,.move (.tmp 0),99,AB,#[],none⟩ (Yz k) (by exact hS) ?_;try simp only[Act.put,As]
    refine Br 1 ⟨some 79,.nilCheck (.tmp 78),0,AB,#[Ai 0],none⟩ (Yz k) (by exact hS) ?_;try simp only[Act.put,As]
    refine Br 2 ⟨some 80,.fieldAddr 171 (.tmp 79) 2,0,AB,#[Ai 1],none⟩ (Yy k 19) (by exact hS) ?_;try simp only[Act.put,As]
    refine Di 3 ⟨some 81,.load 146 (.tmp 80),146,AB,#[Ai 2],none⟩ (Yz d) (by exact Or.inl ⟨by rfl,fun X hX=>by have B:=hX.1.1;go_simp⟩) (by exact hS) ?_;try simp only[Act.put,As]
    refine Br 4 ⟨some 82,.nilCheck (.tmp 81),0,AB,#[Ai 3],none⟩ (Yz d) (by exact hS) ?_;try simp only[Act.put,As]
    refine Br 5 ⟨some 83,.fieldAddr 162 (.tmp 82) 0,0,AB,#[Ai 4],none⟩ (Yz d) (by exact hS) ?_;try simp only[Act.put,As]
    refine Di 6 ⟨some 84,.load 159 (.tmp 83),159,AB,#[Ai 5],none⟩ (.agg #[Zg v.wd,.map (some m)]) (by exact yieldsIf_load_mid (by rfl) 159 _ rfl (d) 0 rfl [Zg v.wd,.map (some m)] _ (fun X h=>YI h.1.2.1 h.1.2.2) underlying159 rfl (by kernel_rfl)) (by exact hS) ?_;try simp only[Act.put,As]
    refine Br 7 ⟨some 85,.fieldAddr 46 (.tmp 6) 4,0,AB,#[],none⟩ (Yy i.heap.size 11) (by exact hS) ?_;try simp only[Act.put,As]
    refine Br 9 ⟨some 87,.fieldAddr 90 (.tmp 5) 2,0,AB,#[],none⟩ (Yy cb 8) (by exact hS) ?_;try simp only[Act.put,As]
    refine Di 10 ⟨some 88,.load 9 (.tmp 87),9,AB,#[Ai 9],none⟩ (.string r.sm) (by exact Or.inl ⟨by rfl,fun X hX=>by have B:=hX.2.1;go_simp⟩) (by exact hS) ?_;try simp only[Act.put,As]
    refine Br 11 ⟨some 89,.fieldAddr 67 (.tmp 3) 1,0,AB,#[],none⟩ (Yy w.heap.size 1) (by exact hS) ?_;try simp only[Act.put,As]
    refine Di 12 ⟨some 90,.load 9 (.tmp 89),9,AB,#[Ai 11],none⟩ (.string e.s) (by exact Or.inl ⟨by rfl,fun X hX=>by have B:=hX.2.2;go_simp⟩) (by exact hS) ?_;try simp only[Act.put,As]
    refine wpAnyH_ready (rs:=[8,13]) (by kernel_rfl) (by simp) ?_;refine AllReadyH.cons (o:=⟨some 86,.load 44 (.tmp 85),44,AB,#[Ai 7],none⟩) rfl (fun K a=> ?_) (AllReadyH.cons (o:=⟨some 91,.buildSlice 22 2 #[(0,.tmp 88),(1,.tmp 90)],22,AB,#[Ai 10,Ai 12],none⟩) rfl (fun K a=> ?_) AllReadyH.nil)
    ·rw[if_pos (by rfl)];refine wp_load_mid 44 _ rfl i.heap.size 11 rfl [c0,c1,c2,c3,c4,c5] _ (Aa.fb [Zg v.wd,Zg v.aj,.slice I v.ss.length J,.slice N G O,Zg v.wd,Zg r.now,Zg r.given,Zg r.ae,.slice ta r.ks.length tc,.slice pa r.ps.length pc,.slice la r.ls.length lc] [c0,c1,c2,c3,c4,c5] [] s.o.2.2.2.2) underlying44 rfl (by kernel_rfl) ?_;refine a.out _ _ hS (fun yD=> ?_);clear a K
     try simp only[Act.put,As]
     refine AM 13 ⟨some 91,.buildSlice 22 2 #[(0,.tmp 88),(1,.tmp 90)],22,AB,#[Ai 10,Ai 12],none⟩ (fun K a=> ?_);go_simp;refine a.out _ _ (zE.o _ _ yD (Zy)) (fun zJ=> ?_);clear a K;try simp only[Act.put,As]
     refine AM 14 ⟨some 92,.call ⟨.value (.func 111),#[.tmp 91],#[22]⟩,9,AB,#[Ai 13],none⟩ (fun K a=> ?_);go_simp;refine(OL l.heap.size r.sm e.s _ (Aa.new l.drew [.string r.sm,.string e.s] 9 0 _ rfl).1 (Aa.new l.drew [.string r.sm,.string e.s] 9 1 _ rfl).1).mono ?_;rintro o rH ⟨rfl,rfl⟩;rw[vW.o];try go_simp
     refine a.out _ _ zJ (fun zG=> ?_);clear a K;try simp only[Act.put,As]
     refine AM 15 ⟨some 93,.call ⟨.value (.func 110),#[.tmp 84,.tmp 86,.tmp 92],#[159,44,9]⟩,44,AB,#[Ai 6,Ai 8,Ai 14,⟨14,.chain⟩],none⟩ (fun K a=> ?_);go_simp;refine Calls.mono HH.o ?_;rintro o zP ⟨zN,qa,qc,ma,mc,rfl,hq,hm,yK⟩;try go_simp
     refine a.out _ _ (zE.o _ _ zG zN) (fun zZ=> ?_);clear a K;try simp only[Act.put,As]
     obtain⟨vI,yQ⟩:=zK.o zP qa qc ma mc zN hq hm yK;have yC:((Yr v.ph qa qn qc ma v.ms.length mc v.ag v.at_ v.ro):Array Value).all (·.oneCell')=true:=by simp[Value.oneCell']
     refine Br 16 ⟨some 94,.fieldAddr 46 (.tmp 6) 4,0,AB,#[Ae 0,Ae 1,Ae 2,Ae 3,Ae 4,Ae 5,Ae 6,Ae 7,Ae 8,Ae 9,Ae 10,Ae 11,Ae 12,Ae 13,Ae 14,Ae 15],none⟩ (Yy i.heap.size 11) (by exact zZ) ?_;try simp only[Act.put,As]
     refine AM 17 ⟨none,.store 44 (.tmp 94) (.tmp 93),0,AB,#[Ai 16,Ai 15,⟨15,.chain⟩,Ae 0,Ae 1,Ae 2,Ae 3,Ae 4,Ae 5,Ae 6,Ae 7,Ae 8,Ae 9,Ae 10,Ae 11,Ae 12,Ae 13,Ae 14,Ae 15],none⟩ (fun K a=> ?_);rw[if_pos (by rfl)];refine wp_store_mid 44 _ _ rfl i.heap.size 11 (Yr v.ph qa qn qc ma v.ms.length mc v.ag v.at_ v.ro) rfl rfl vI (by kernel_rfl) yC ?_
     refine a.out _ _ (yG.o _ _ zZ (Ax _ _ _ _)) (fun sU=> ?_);clear a K;try simp only[Act.put]
     refine wpAnyH_done (by kernel_rfl) ?_ _;refine NoPanic.normal ?_;go_wp2_with fail;go_meet;exact⟨qa,qc,ma,mc,yQ⟩
    ·go_simp;refine a.out _ _ (zE.o _ _ hS (Zy)) (fun yD=> ?_);clear a K;try simp only[Act.put,As]
     refine wpAnyH_ready (rs:=[8,14]) (by kernel_rfl) (by simp) ?_;refine AllReadyH.cons (o:=⟨some 86,.load 44 (.tmp 85),44,AB,#[Ai 7],none⟩) rfl (fun K a=> ?_) (AllReadyH.cons (o:=⟨some 92,.call ⟨.value (.func 111),#[.tmp 91],#[22]⟩,9,AB,#[Ai 13],none⟩) rfl (fun K a=> ?_) AllReadyH.nil)
     ·rw[if_pos (by rfl)];refine wp_load_mid 44 _ rfl i.heap.size 11 rfl [c0,c1,c2,c3,c4,c5] _ (Aa.fb [Zg v.wd,Zg v.aj,.slice I v.ss.length J,.slice N G O,Zg v.wd,Zg r.now,Zg r.given,Zg r.ae,.slice ta r.ks.length tc,.slice pa r.ps.length pc,.slice la r.ls.length lc] [c0,c1,c2,c3,c4,c5] [] (Aa.below s.o.2.2.2.2 yV)) underlying44 rfl (by kernel_rfl) ?_;refine a.out _ _ yD (fun zJ=> ?_)
      clear a K;try simp only[Act.put,As]
      refine AM 14 ⟨some 92,.call ⟨.value (.func 111),#[.tmp 91],#[22]⟩,9,AB,#[Ai 13],none⟩ (fun K a=> ?_);go_simp;refine(OL l.heap.size r.sm e.s _ (Aa.new l.drew [.string r.sm,.string e.s] 9 0 _ rfl).1 (Aa.new l.drew [.string r.sm,.string e.s] 9 1 _ rfl).1).mono ?_;rintro o rH ⟨rfl,rfl⟩;rw[vW.o];try go_simp
      refine a.out _ _ zJ (fun zG=> ?_);clear a K;try simp only[Act.put,As]
      refine AM 15 ⟨some 93,.call ⟨.value (.func 110),#[.tmp 84,.tmp 86,.tmp 92],#[159,44,9]⟩,44,AB,#[Ai 6,Ai 8,Ai 14,⟨14,.chain⟩],none⟩ (fun K a=> ?_);go_simp;refine Calls.mono HH.o ?_;rintro o zP ⟨zN,qa,qc,ma,mc,rfl,hq,hm,yK⟩;try go_simp
      refine a.out _ _ (zE.o _ _ zG zN) (fun zZ=> ?_);clear a K;try simp only[Act.put,As]
      obtain⟨vI,yQ⟩:=zK.o zP qa qc ma mc zN hq hm yK;have yC:((Yr v.ph qa qn qc ma v.ms.length mc v.ag v.at_ v.ro):Array Value).all (·.oneCell')=true:=by simp[Value.oneCell']
      refine Br 16 ⟨some 94,.fieldAddr 46 (.tmp 6) 4,0,AB,#[Ae 0,Ae 1,Ae 2,Ae 3,Ae 4,Ae 5,Ae 6,Ae 7,Ae 8,Ae 9,Ae 10,Ae 11,Ae 12,Ae 13,Ae 14,Ae 15],none⟩ (Yy i.heap.size 11) (by exact zZ) ?_;try simp only[Act.put,As]
      refine AM 17 ⟨none,.store 44 (.tmp 94) (.tmp 93),0,AB,#[Ai 16,Ai 15,⟨15,.chain⟩,Ae 0,Ae 1,Ae 2,Ae 3,Ae 4,Ae 5,Ae 6,Ae 7,Ae 8,Ae 9,Ae 10,Ae 11,Ae 12,Ae 13,Ae 14,Ae 15],none⟩ (fun K a=> ?_);rw[if_pos (by rfl)];refine wp_store_mid 44 _ _ rfl i.heap.size 11 (Yr v.ph qa qn qc ma v.ms.length mc v.ag v.at_ v.ro) rfl rfl vI (by kernel_rfl) yC ?_
      refine a.out _ _ (yG.o _ _ zZ (Ax _ _ _ _)) (fun sU=> ?_);clear a K;try simp only[Act.put]
      refine wpAnyH_done (by kernel_rfl) ?_ _;refine NoPanic.normal ?_;go_wp2_with fail;go_meet;exact⟨qa,qc,ma,mc,yQ⟩
     ·go_simp;refine(OL l.heap.size r.sm e.s _ (Aa.new l.drew [.string r.sm,.string e.s] 9 0 _ rfl).1 (Aa.new l.drew [.string r.sm,.string e.s] 9 1 _ rfl).1).mono ?_;rintro o rH ⟨rfl,rfl⟩;rw[vW.o];try go_simp
      refine a.out _ _ yD (fun zJ=> ?_);clear a K;try simp only[Act.put,As]
      refine AM 8 ⟨some 86,.load 44 (.tmp 85),44,AB,#[Ai 7],none⟩ (fun K a=> ?_);rw[if_pos (by rfl)]
      refine wp_load_mid 44 _ rfl i.heap.size 11 rfl [c0,c1,c2,c3,c4,c5] _ (Aa.fb [Zg v.wd,Zg v.aj,.slice I v.ss.length J,.slice N G O,Zg v.wd,Zg r.now,Zg r.given,Zg r.ae,.slice ta r.ks.length tc,.slice pa r.ps.length pc,.slice la r.ls.length lc] [c0,c1,c2,c3,c4,c5] [] (Aa.below s.o.2.2.2.2 yV)) underlying44 rfl (by kernel_rfl) ?_;refine a.out _ _ zJ (fun zG=> ?_);clear a K
      try simp only[Act.put,As]
      refine AM 15 ⟨some 93,.call ⟨.value (.func 110),#[.tmp 84,.tmp 86,.tmp 92],#[159,44,9]⟩,44,AB,#[Ai 6,Ai 8,Ai 14,⟨14,.chain⟩],none⟩ (fun K a=> ?_);go_simp;refine Calls.mono HH.o ?_;rintro o zP ⟨zN,qa,qc,ma,mc,rfl,hq,hm,yK⟩;try go_simp
      refine a.out _ _ (zE.o _ _ zG zN) (fun zZ=> ?_);clear a K;try simp only[Act.put,As]
      obtain⟨vI,yQ⟩:=zK.o zP qa qc ma mc zN hq hm yK;have yC:((Yr v.ph qa qn qc ma v.ms.length mc v.ag v.at_ v.ro):Array Value).all (·.oneCell')=true:=by simp[Value.oneCell']
      refine Br 16 ⟨some 94,.fieldAddr 46 (.tmp 6) 4,0,AB,#[Ae 0,Ae 1,Ae 2,Ae 3,Ae 4,Ae 5,Ae 6,Ae 7,Ae 8,Ae 9,Ae 10,Ae 11,Ae 12,Ae 13,Ae 14,Ae 15],none⟩ (Yy i.heap.size 11) (by exact zZ) ?_;try simp only[Act.put,As]
      refine AM 17 ⟨none,.store 44 (.tmp 94) (.tmp 93),0,AB,#[Ai 16,Ai 15,⟨15,.chain⟩,Ae 0,Ae 1,Ae 2,Ae 3,Ae 4,Ae 5,Ae 6,Ae 7,Ae 8,Ae 9,Ae 10,Ae 11,Ae 12,Ae 13,Ae 14,Ae 15],none⟩ (fun K a=> ?_);rw[if_pos (by rfl)];refine wp_store_mid 44 _ _ rfl i.heap.size 11 (Yr v.ph qa qn qc ma v.ms.length mc v.ag v.at_ v.ro) rfl rfl vI (by kernel_rfl) yC ?_
      refine a.out _ _ (yG.o _ _ zZ (Ax _ _ _ _)) (fun sU=> ?_);clear a K;try simp only[Act.put]
      refine wpAnyH_done (by kernel_rfl) ?_ _;refine NoPanic.normal ?_;go_wp2_with fail;go_meet;exact⟨qa,qc,ma,mc,yQ⟩
   case rest=>
   revert wc;intro yM hcut;obtain⟨qa,qc,ma,mc,hcut⟩:=hcut;clear xI d0 d1 qH qI qJ qK qL qM u8 e1 yV HH vW;obtain⟨rK,yE,hq,hm,yK⟩:=hcut.o;have q1:=zA.o;have qU:=yE.size;have rG:=sQ.o;have q3:=xQ.o;have rW:i.heap.size<w5.heap.size:=by omega
   have yF:=Yx (Zb (Aa.same s.o.1 (yE.block _ s.o.1.lt (by simp;omega))) (Zb (Aa.same s.o.2.2.1 (yE.block _ s.o.2.2.1.lt (by simp;omega))) (Zb (Aa.same s.o.2.2.2.1 (yE.block _ s.o.2.2.2.1.lt (by simp;omega))) rK)));have vK:Hid (Below lo w yM):=yO.o.trans (yE.below (Zm zU.o yO.o.size) (by simp;omega))
   have xV:Hid (AU yM w5.heap.size (.slice I v.ss.length J) (.slice N G O) (.slice ta r.ks.length tc) (.slice pa r.ps.length pc) (.slice la r.ls.length lc) (.slice qa qn qc) (.slice ma v.ms.length mc) rs (doV v e r)):=by
    have hS:=vO.o.al yE (by simp;omega);have B:=zY.o.1.al yE (fun g hg=>by have:=(zY.o.1.cg hg).1;simp;omega);have h2:=zY.o.2.1.al yE (fun g hg=>by have:=(zY.o.2.1.cg hg).1;simp;omega)
    refine AU.apart (B.mono (by omega)) (by have h:=h2.mono (base':=w5.heap.size) (by omega);rw[sH.o]at h;exact h) zY.o.2.2 hS (by have h:=hq.mono (base':=w5.heap.size) (by omega);rw[sK.o]at h;exact h) (hm.mono (by omega)) yK (fun g hg vF=> ?_) (fun g hg vF=> ?_) (fun g g' hg rZ he=> ?_)
    ·have:=tI.o g vF;rcases hg with hg|hg
     ·have:=(B.cg hg).1;omega
     ·have:=(h2.cg hg).1;omega
    ·have:=tI.o g vF;rcases hg with hg|hg
     ·have:=(hq.cg hg).1;omega
     ·have:=(hm.cg hg).1;omega
    ·have a1:g<l.heap.size:=by
      rcases hg with hg|hg
      ·exact(zY.o.1.cg hg).2
      ·exact(zY.o.2.1.cg hg).2
     have a2:l.heap.size<=g':=by
      rcases rZ with hg|hg
      ·exact(hq.cg hg).1
      ·exact(hm.cg hg).1
     omega
   have tL:Hid (w.heap.size+2<w5.heap.size/\lo<=w5.heap.size):=⟨by omega,by omega⟩;obtain⟨u8,_⟩:=yF.o.2.2.1 8 _ rfl;obtain⟨u9,_⟩:=yF.o.2.2.1 9 _ rfl;clear hcut rK yE hq hm yK q1 q3 rG rW qB qC qD qE qF s yO vO tI zY sK rP sH rQ
   obtain⟨vs,vJ⟩:∃t:Zj,t=[Zg v.wd,Zg v.aj,.slice I v.ss.length J,.slice N G O,Zg v.wd,Zg r.now,Zg r.given,Zg r.ae,.slice ta r.ks.length tc,.slice pa r.ps.length pc,.slice la r.ls.length lc,Zg v.ph,.slice qa qn qc,.slice ma v.ms.length mc,Zg v.ag,Zg v.at_,Zg v.ro]:=⟨_,rfl⟩;have rR:Hid (Aa yM i.heap.size vs):=by show Aa yM i.heap.size vs;rw[vJ];exact yF.o.2.2.2
   have tE:vs.length=17:=by rw[vJ];rfl
   have rE:∀u∈vs,u.oneCell'=true:=by
    have h:vs.all (·.oneCell')=true:=by rw[vJ];kernel_rfl
    exact fun u hu=>List.all_eq_true.1 h u hu
   obtain⟨D,hD⟩:∃t:Zj,t=Zg 0::(vs++[.string r.sm,Zg r.le,Zd,Zd]):=⟨_,rfl⟩;have tC:D.length=22:=by rw[hD];simp[tE]
   have sT:∀u∈D,u.oneCell'=true:=by
    intro u hu;rw[hD]at hu;simp only[List.mem_cons,List.mem_append,List.not_mem_nil,or_false]at hu;rcases hu with rfl|hu|rfl|rfl|rfl|rfl
    ·rfl
    ·exact rE u hu
    ·rfl
    ·rfl
    ·rfl
    ·rfl
   have rN:Hid (prog.built 48 [(1,.agg vs.toArray),(2,.string r.sm),(3,Zg r.le)]=some D.toArray):=by show _=some D.toArray;rw[hD];exact Mv tE _ _
   have rO:Hid (vs.length=17):=tE;have zK:Hid (D=Ki (dyes v e r) (.slice I v.ss.length J) (.slice N G O) (.slice ta r.ks.length tc) (.slice pa r.ps.length pc) (.slice la r.ls.length lc) (.slice qa qn qc) (.slice ma v.ms.length mc)):=by show D=_;rw[hD,vJ];have h:=xS.o;unfold Ki Cd dyes doV;simp only[List.cons_append,List.nil_append,←h]
   obtain⟨W9,zH⟩:∃Y,Y=yM.setCells (w.heap.size+1) 0 D.toArray.toList:=⟨_,rfl⟩;obtain⟨yH,F⟩:∃Y,Y=W9.setCell (Ze k 0) (.int .i32 0):=⟨_,rfl⟩;obtain⟨l0,g0,yA,zX⟩:=Iv (z:=Zf) (cs:=D) yF.o.1 yF.o.2.1 (by rw[tC];rfl) (by have:=zA.o;omega) zH F;have zS:Hid (yM.there (w.heap.size+1) 0 D.toArray.size/\D.length=22/\∀u∈D,u.oneCell'=true):=by refine⟨?_,tC,sT⟩;rw[show D.toArray.size=22 from by rw[List.size_toArray];exact tC];exact yF.o.2.1.there
   have yR:Hid (Below lo w yH):=vK.o.trans (zX.below (Zm zU.o vK.o.size) (by have:=zA.o;simp;omega))
   have sL:Hid (AU yH lo (.slice I v.ss.length J) (.slice N G O) (.slice ta r.ks.length tc) (.slice pa r.ps.length pc) (.slice la r.ls.length lc) (.slice qa qn qc) (.slice ma v.ms.length mc) rs (doV v e r)):=(xV.o.stays zX (fun b hb vF=>by have:=xV.o.lo b vF;have:=tL.o;have:=zA.o;simp at hb;omega)).mono tL.o.2
   have sD:Hid (∃r,Jy v e r/\∃S U T P L Q M,Ending.returned (.agg D.toArray)=.returned (.agg (Ki (dyes v e r) S U T P L Q M).toArray)/\∃rs,AU yH lo S U T P L Q M rs (doV v e r)):=⟨r,vQ.o,_,_,_,_,_,_,_,by rw[zK.o],rs,sL.o⟩;have HU:=Yx (Zn l0 g0);have n:=Yx yA;have yS:=Yx zH;have zR:=Yx F;clear zH F l0 g0 yA zX vJ tE rE hD tC sT yF xV zK sL vQ xS tL;go_wp2_with (first
    |refine wpList_load_mid rfl 46 _ rfl i.heap.size 0 rfl vs _ rR.o.range underlying46 rfl (by rw[rO.o];kernel_rfl) ?_
    |refine Gu rfl 48 _ rfl [(1,.agg vs.toArray),(2,.string r.sm),(3,Zg r.le)] (by kernel_rfl) D.toArray rN.o ?_
    |refine wpList_store_mid rfl 48 _ _ rfl (w.heap.size+1) 0 D.toArray rfl rfl zS.o.1 (by rw[List.size_toArray,zS.o.2.1];kernel_rfl) (all_oneCell_toArray zS.o.2.2) ?_)
   rw[←yS.o];refine leaves_cons (f:=104) (args:= #[Yz k]) (by simp) (by simp[go_sem]) ?_;refine(unlock_deferred JD ⟨k,0,none⟩ .returning _ HU.o.1 HU.o.2).mono ?_;rintro o u' tF ⟨rfl,rfl,rfl⟩;rw[←zR.o];exact⟨_,BL results53 _ _ (w.heap.size+1) D _ rfl (Aa.range n.o) underlying48 rfl (by rw[zS.o.2.1];kernel_rfl),yR.o,.inr sD.o⟩
end
end Go.Proofs.YtckmnfhmoankmaaGreatDoor
