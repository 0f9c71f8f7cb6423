import Derived.Test.YtlhhpofjkgmbeaaGreatDoorX25
import Derived.Deep.CutRange
set_option maxRecDepth 100000
set_option maxHeartbeats 16000000
namespace Go.Proofs.YtlhhpofjkgmbeaaGreatDoor
open Go.ChangeShapes Go.WideShapes Go.ChangeAt Go.RowKit _root_.Go.Proofs.Tryz
section
open Go.MuLone Go.ChangeShapes Go.WideShapes Go.ChangeAt Go.RowKit
theorem Aai(lo k d m:Nat)(V:List Nat)(v:Vd)(e:Ed)(x y b0 b1 b2 b3 b4 b5 b6 c0 c1 c2 c3 c4 c5:Value)(ra:Zk)(rc:Nat)(Y:Rs->Zh->Prop)(w:Zh)
 (xT:Aa w k [.int .i32 0,.int .u32 0,Zg v.wd,Zg v.ak,x,y,b0,b1,b2,b3,b4,b5,b6,c0,c1,c2,c3,c4,c5,Yz d]) (de:lo<=k) (hV:∀b∈V,lo<=b/\b<k) (sX:d∈V/\m∈V) (vP:∀u∈[Zg v.wd,Zg v.ak,x,y,b0,b1,b2,b3,b4,b5,b6,c0,c1,c2,c3,c4,c5],u.oneCell'=true)
 (hE:∀X,Below lo w X->Calls prog 100 #[.agg (Yp e.kd e.s e.nm e.num e.tx ra e.rf.length rc),Zg v.wd] X fun o s=>o=.returned (.bool (e.ok v.wd))/\Zz X s)
 (hA:e.ok v.wd=true->∀X,Tn [k] w X->Calls prog 101 #[Yz d,.agg (Yp e.kd e.s e.nm e.num e.tx ra e.rf.length rc)] X fun o s=>Tn V X s/\∃c sm le p q,o=.returned (.agg #[Zg c,Zf,Zf,Zf,Zf,Zc,Zc,Zc,.string sm,Zg le,.string p,.string q])/\((e.no v c p q/\sm=⟨#[]⟩/\le=0)∨(c=0/\p=⟨#[]⟩/\q=⟨#[]⟩/\∃r,e.yes v r/\r.sm=sm/\r.le=le/\Y r s)))
 (hY:∀r X s R,Y r X->R∉V->(X.heap.size<=R∨∃rV,X.heap[R]?=some (.cells rV 82))->Tn [R] X s->Y r s) (hD:∀r X,Y r X->X.cell? (Ze d 0)=some (Zg v.wd)/\X.cell? (Ze d 1)=some (.map (some m)))
 (E:∀r X,Y r X->Calls prog 96 #[Yz d] X fun o s=>∃ta tc pa pc la lc rs,o=.returned (.agg (Ys v.wd r.now r.given r.ae ta r.ks.length tc pa r.ps.length pc la r.ls.length lc))/\AO s X.heap.size (.slice ta r.ks.length tc) (.slice pa r.ps.length pc) (.slice la r.ls.length lc) rs r.ks r.ps r.ls/\Zz X s)
 (sY:e.kd≠1)
 (hF:e.ok v.wd=true->∀X,Below lo w X->Calls prog 104 #[.agg (Yp e.kd e.s e.nm e.num e.tx ra e.rf.length rc),Zg v.wd] X fun o s=>o=.returned (.string (e.bt v.wd))/\Zz X s)
 (hP:e.ok v.wd=true->∀X,Below lo w X->Calls prog 103 #[.agg #[x,y],.string (e.bt v.wd)] X fun o s=>Zz X s/\∃I sn J N F O c,o=.returned (.tuple #[.agg #[.slice I sn J,.slice N F O],Zg c])/\((v.ss.length+v.tt.length=4000/\(c==(0:Int))=false)∨(¬v.ss.length+v.tt.length=4000/\c=0/\sn=v.ss.length/\F=(v.tt++[e.bt v.wd]).length/\Ao s X.heap.size (.slice I sn J) v.ss/\Ao s X.heap.size (.slice N F O) (v.tt++[e.bt v.wd])/\∀g,Ak (.slice I sn J)=some g->Ak (.slice N F O)≠some g)))
 (hO:∀r,e.yes v r->(if r.sm=⟨#[]⟩then e.s else r.sm)=e.held r)
 (hH:∀r X Z,Y r X->e.yes v r->Below lo w Z->Z.heap[m]?=X.heap[m]? ->Calls prog 105 #[.agg #[Zg v.wd,.map (some m)],.agg #[c0,c1,c2,c3,c4,c5],.string (e.held r)] Z fun o Z'=>Zz Z Z'/\∃qa qc ma mc,o=.returned (.agg (Yk v.ph qa ((shQ v.ph r.ks v.qs v.ms (e.held r)).length) qc ma v.ms.length mc v.ag v.at_ v.ro))/\Ao Z' Z.heap.size (.slice qa (shQ v.ph r.ks v.qs v.ms (e.held r)).length qc) (shQ v.ph r.ks v.qs v.ms (e.held r))/\Ao Z' Z.heap.size (.slice ma v.ms.length mc) v.ms/\∀g,Ak (.slice qa (shQ v.ph r.ks v.qs v.ms (e.held r)).length qc)=some g->Ak (.slice ma v.ms.length mc)≠some g)
 (rC:v.wd=v.sw):
 Calls prog 46 #[Yz k,.agg (Yp e.kd e.s e.nm e.num e.tx ra e.rf.length rc)] w fun o w'=>Below lo w w'/\((∃c p q,Hb v e c p q/\o=.returned (.agg #[Zg c,Zf,Zf,Zc,Zc,Zf,Zf,Zf,Zf,Zc,Zc,Zc,Zf,Zc,Zc,Zf,Zf,Zf,Zd,Zf,.string p,.string q]))∨(∃r S U T P L Q M rs,Jt v e r/\o=.returned (.agg (JZ (dyes v e r) S U T P L Q M).toArray)/\AL w' lo S U T P L Q M rs (doV v e r))):=by
 have qA:=xT.lt;obtain⟨W,hW⟩:∃W,W=(w.alloc (.cells (Yp e.kd e.s e.nm e.num e.tx ra e.rf.length rc) 60)).alloc (.cells Yc 45):=⟨_,rfl⟩;have bW:=(AW hW).1;have zW:=(AW hW).2.1;have xE:=(AW hW).2.2.1;have xZ:=(AW (k:=CN) hW).2.2.2;have xK:=Aa.below xT bW;obtain⟨W1,vA⟩:∃X,X=W.setCell (Ze k 0) (.int .i32 1):=⟨_,rfl⟩;have t1:Tn [k] W W1:=by rw[vA];exact Tn.set _ _ _ _ (by simp)
 have qU:W1.heap.size=W.heap.size:=by rw[vA];simp
 have sD:Aa W1 k [.int .i32 1,.int .u32 0,Zg v.wd,Zg v.ak,x,y,b0,b1,b2,b3,b4,b5,b6,c0,c1,c2,c3,c4,c5,Yz d]:=by rw[vA];exact xK.set 0 _
 have yW:=Aa.same xE (t1.block _ (by omega) (by simp;omega));have rM:Aa W1 (w.heap.size+1) CN:=Aa.same xZ (t1.block _ (by omega) (by simp;omega));have sB:Tn [k] w W1:=((Tn.of (V:=[]) bW).mono (by simp)).trans t1;have vX:=Yx (Zb sD (Zb yW rM));have zA:Hid (lo<=k/\k<w.heap.size/\Below lo w W1/\Tn [k] w W1/\W1.heap.size=w.heap.size+2):=⟨de,qA,sB.below (by omega) (by simp;exact de),sB,by omega⟩
 have zU:Hid (lo<=w.heap.size):=by show lo<=w.heap.size;omega
 have HV:=Yx (Zn hV sX);have vU:=Yx vP;have HE:=Yx hE;have HA:=Yx hA;have HY:=Yx hY;have vQ:=Yx hD;have HS:=Yx E;have sJ:=Yx sY;have HF:=Yx hF;have HP:=Yx hP;have HO:=Yx hO;have HH:=Yx hH;have xX:=Yx rC;have HW:=Yx hW;have sM:=Yx vA;obtain⟨sR,f0⟩:=xK 0 _ rfl;obtain⟨rU,_⟩:=sD 2 _ rfl;obtain⟨e0,_⟩:=yW 0 _ rfl;obtain⟨e1,_⟩:=yW 1 _ rfl;obtain⟨e2,_⟩:=yW 2 _ rfl;obtain⟨e3,_⟩:=yW 3 _ rfl
 obtain⟨e4,_⟩:=yW 4 _ rfl;obtain⟨e5,_⟩:=yW 5 _ rfl;clear hW vA xT hV sX vP hE hA hY hD E sY hF hP hO hH rC xE xZ xK sD yW rM sB t1 bW de
 go_enter_defers func46,ntmps46
 go_upto_region 1 with fail;rw[←HW.o];clear HW;go_upto_region 3 with(go_at_call 98;refine(lock_free Lm ⟨k,0,none⟩ _ sR f0).mono ?_;rintro o w' ⟨rfl,rfl⟩;rw[←sM.o];clear sM sR f0);go_cut [23]from 9 to 100 (fun nb wx=>nb=.bool (!(e.ok v.wd))/\Hid (Zz W1 wx))
 case first=>
  refine wp_region_noPanic ?_;go_region_with (go_at_call 100;refine(HE.o W1.drew zA.o.2.2.1.drew).mono ?_;rintro o w2 ⟨rfl,yS⟩;have tB:Below W1.heap.size W1 w2:=(Below.refl W1.heap.size W1).drew.trans yS)
  all_goals ((try refine NoPanic.normal ?_);go_wp2_with fail;go_meet;exact⟨rfl,tB⟩)
 case rest=>
 revert wc;intro w2 hcut;obtain⟨rfl,tB⟩:=hcut;have yS:=tB.o;clear HE e0 e1 e2 e3 e4 e5 rU tB;have z2:=yS.size;have zH:Hid (Aa w2 k [.int .i32 1,.int .u32 0,Zg v.wd,Zg v.ak,x,y,b0,b1,b2,b3,b4,b5,b6,c0,c1,c2,c3,c4,c5,Yz d]/\Aa w2 w.heap.size (Yo e.kd e.s e.nm e.num e.tx ra e.rf.length rc)/\Aa w2 (w.heap.size+1) CN):=⟨Aa.below vX.o.1 yS,Aa.below vX.o.2.1 yS,Aa.below (v:=Zf) vX.o.2.2 yS⟩
 have xA:Hid (Below lo w w2/\Tn [k] w w2):=⟨zA.o.2.2.1.trans (yS.mono (by have:=zA.o;omega)),zA.o.2.2.2.1.trans ((Tn.of (V:=[]) yS).mono (by simp))⟩;clear yS vX;cases hoe:e.ok v.wd with
 |false=>
  have xW:Hid (Hb v e 1 ⟨#[]⟩ ⟨#[]⟩):=.inl ⟨hoe,rfl,rfl,rfl⟩;clear hoe HA HS HF HP HO HH HY vQ HV vU xX;obtain⟨W9,zS⟩:∃Y,Y=w2.setCells (w.heap.size+1) 0 (Xy 1):=⟨_,rfl⟩;obtain⟨yR,zC⟩:∃Y,Y=W9.setCell (Ze k 0) (.int .i32 0):=⟨_,rfl⟩;obtain⟨l0,g0,yI,yF⟩:=JI (z:=Zf) (cs:=(Xy 1)) zH.o.1 zH.o.2.2 rfl (by have:=zA.o;omega) zS zC
  have zZ:=Yx (Zn (show((Xx 1):Array Value).all (·.oneCell')=true by kernel_rfl) zH.o.2.2.there);have xB:Hid (Below lo w yR):=xA.o.1.trans (yF.below (Zm zU.o xA.o.1.size) (by have:=zA.o;simp;omega));have HU:=Yx (Zn l0 g0);have A:=Yx yI;have xD:=Yx zS;have yC:=Yx zC;clear zS zC l0 g0 yI yF
  go_wp2_with (refine wpList_store_mid rfl 45 _ _ rfl (w.heap.size+1) 0 (Xx 1) rfl rfl zZ.o.2 (by kernel_rfl) zZ.o.1 ?_);rw[←xD.o];refine leaves_cons (f:=99) (args:= #[Yz k]) (by simp) (by simp[go_sem]) ?_;refine(unlock_deferred Lm ⟨k,0,none⟩ .returning _ HU.o.1 HU.o.2).mono ?_;rintro o u' sC ⟨rfl,rfl,rfl⟩;rw[←yC.o]
  exact⟨_,BN results46 _ _ (w.heap.size+1) (Xy 1) _ rfl (Aa.range A.o) underlying45 rfl (by kernel_rfl),xB.o,.inl ⟨1,⟨#[]⟩,⟨#[]⟩,xW.o,rfl⟩⟩
 |true=>
  have vT:Hid (e.ok v.wd=true):=hoe;replace HA:=Yx (HA.o hoe);replace HF:=Yx (HF.o hoe);replace HP:=Yx (HP.o hoe);obtain⟨e0,_⟩:=zH.o.2.1 0 _ rfl;obtain⟨e1,_⟩:=zH.o.2.1 1 _ rfl;obtain⟨e2,_⟩:=zH.o.2.1 2 _ rfl;obtain⟨e3,_⟩:=zH.o.2.1 3 _ rfl;obtain⟨e4,_⟩:=zH.o.2.1 4 _ rfl;obtain⟨e5,_⟩:=zH.o.2.1 5 _ rfl;obtain⟨xH,_⟩:=zH.o.1 19 _ rfl
  have TB:Tn [k] w w2.drew:=xA.o.2.trans ((Tn.of (V:=[]) (Below.refl _ _).drew).mono (by simp));have bA:Below w2.heap.size w2 (w2.alloc (.cells Yr 82)).drew:=(Zy).drew;have TA:Tn [k] w (w2.alloc (.cells Yr 82)).drew:=xA.o.2.trans ((Tn.of (V:=[]) bA).mono (by simp));have q1:=zA.o;have rB:w2.heap.size∉V:=fun h=>by have:=HV.o.1 _ h;omega
  clear hoe;have vE:k∉V:=fun h=>by have:=HV.o.1 k h;omega
  have vF:w.heap.size∉V:=fun h=>by have:=HV.o.1 _ h;omega
  have zE:Hid (∀X s,(X.cell? (Ze k 19)=some (Yz d)/\Aa X w.heap.size (Yo e.kd e.s e.nm e.num e.tx ra e.rf.length rc))->Zz X s->s.cell? (Ze k 19)=some (Yz d)/\Aa s w.heap.size (Yo e.kd e.s e.nm e.num e.tx ra e.rf.length rc)):=fun X s B h2=>⟨(cell_of_block (h2.block k (World.block_lt_of_cell? X _ B.1)) 19).trans B.1,Aa.below B.2 h2⟩
  have tO:Hid (∀X s,(X.cell? (Ze k 19)=some (Yz d)/\Aa X w.heap.size (Yo e.kd e.s e.nm e.num e.tx ra e.rf.length rc))->Tn V X s->s.cell? (Ze k 19)=some (Yz d)/\Aa s w.heap.size (Yo e.kd e.s e.nm e.num e.tx ra e.rf.length rc)):=fun X s B h2=>⟨(cell_of_block (h2.block k (World.block_lt_of_cell? X _ B.1) vE) 19).trans B.1,Aa.same B.2 (h2.block _ B.2.lt vF)⟩
  have yE:Hid (∀X s cb,(X.cell? (Ze k 19)=some (Yz d)/\Aa X w.heap.size (Yo e.kd e.s e.nm e.num e.tx ra e.rf.length rc))->w2.heap.size<=cb->Tn [cb] X s->s.cell? (Ze k 19)=some (Yz d)/\Aa s w.heap.size (Yo e.kd e.s e.nm e.num e.tx ra e.rf.length rc)):=fun X s cb B hc h2=>⟨(cell_of_block (h2.block k (World.block_lt_of_cell? X _ B.1) (by simp;omega)) 19).trans B.1,Aa.same B.2 (h2.block _ B.2.lt (by simp;omega))⟩
  have zK:Hid (∀X cb c sm le p q,w2.heap.size<=cb->Tn V w2 X->X.heap[cb]?=some (.cells z12.toArray 82 (0,0))->((e.no v c p q/\sm=⟨#[]⟩/\le=0)∨(c=0/\p=⟨#[]⟩/\q=⟨#[]⟩/\∃r,e.yes v r/\r.sm=sm/\r.le=le/\Y r X))->Hid (w2.heap.size<=cb/\Tn V w2 (X.setCells cb 0 [Zg c,Zf,Zf,Zf,Zf,Zc,Zc,Zc,.string sm,Zg le,.string p,.string q])/\∃c' sA tZ p' q',Aa (X.setCells cb 0 [Zg c,Zf,Zf,Zf,Zf,Zc,Zc,Zc,.string sm,Zg le,.string p,.string q]) cb [Zg c',Zf,Zf,Zf,Zf,Zc,Zc,Zc,.string sA,Zg tZ,.string p',.string q']/\((e.no v c' p' q'/\sA=⟨#[]⟩/\tZ=0)∨(c'=0/\p'=⟨#[]⟩/\q'=⟨#[]⟩/\∃r,e.yes v r/\r.sm=sA/\r.le=tZ/\Y r (X.setCells cb 0 [Zg c,Zf,Zf,Zf,Zf,Zc,Zc,Zc,.string sm,Zg le,.string p,.string q]))))):=fun X cb c sm le p q B h2 h3 h4=>by
   have t:=AP cb [Zg c,Zf,Zf,Zf,Zf,Zc,Zc,Zc,.string sm,Zg le,.string p,.string q] 0 X;refine⟨B,⟨t.os.trans h2.os,t.tape.trans h2.tape,t.output.trans h2.output,Zm h2.size t.size,fun b hb hv=>(t.block b (Zr hb h2.size) (by simp;omega)).trans (h2.block b hb hv)⟩,c,sm,le,p,q,(Aa.fy h3).ba _ rfl,?_⟩;rcases h4 with h|⟨h5,h6,h7,r,h8,h9,tQ,tR⟩
   ·exact .inl h
   ·exact .inr ⟨h5,h6,h7,r,h8,h9,tQ,HY.o r _ _ cb tR (fun h=>by have:=HV.o.1 _ h;omega) (.inr ⟨_,h3⟩) t⟩
  go_upto_region 5 with fail;go_cut [5]from 9 to 100 (fun pc wx=>∃cb:Nat,pc=Yz cb/\Hid (w2.heap.size<=cb/\Tn V w2 wx/\∃c sm le p q,Aa wx cb [Zg c,Zf,Zf,Zf,Zf,Zc,Zc,Zc,.string sm,Zg le,.string p,.string q]/\((e.no v c p q/\sm=⟨#[]⟩/\le=0)∨(c=0/\p=⟨#[]⟩/\q=⟨#[]⟩/\∃r,e.yes v r/\r.sm=sm/\r.le=le/\Y r wx))))
  case first=>
   refine wp_region_noPanic ?_;refine wp_region_held_drew (S:=fun X=>X.cell? (Ze k 19)=some (Yz d)/\Aa X w.heap.size (Yo e.kd e.s e.nm e.num e.tx ra e.rf.length rc)) (by kernel_rfl) (show _/\_ from⟨xH,zH.o.2.1⟩) (fun E=> ?_);refine Bq 0 ⟨some 25,.move (.tmp 0),92, "l7_vault.go:227",#[],none⟩ (Yz k) (by exact E) ?_;try simp only[Act.put,Az]
   refine Bq 1 ⟨some 26,.nilCheck (.tmp 25),0, "l7_vault.go:227",#[Al 0],none⟩ (Yz k) (by exact E) ?_;try simp only[Act.put,Az]
   refine Bq 2 ⟨some 27,.fieldAddr 166 (.tmp 26) 2,0, "l7_vault.go:227",#[Al 1],none⟩ (Yy k 19) (by exact E) ?_;try simp only[Act.put,Az]
   refine Et 3 ⟨some 28,.load 141 (.tmp 27),141, "l7_vault.go:227",#[Al 2],none⟩ (Yz d) (by exact Or.inl ⟨by rfl,fun X hX=>by have B:=hX.1;go_simp⟩) (by exact E) ?_;try simp only[Act.put,Az]
   refine Et 4 ⟨some 29,.load 60 (.tmp 3),60, "l7_vault.go:227",#[],none⟩ (.agg (Yp e.kd e.s e.nm e.num e.tx ra e.rf.length rc)) (by exact yieldsIf_load_mid (by rfl) 60 _ rfl (w.heap.size) 0 rfl (Yo e.kd e.s e.nm e.num e.tx ra e.rf.length rc) _ (fun X h=>h.2.range) underlying60 rfl (by kernel_rfl)) (by exact E) ?_;try simp only[Act.put,Az]
   refine wpAnyH_ready (rs:=[5,6]) (by kernel_rfl) (by simp) ?_;refine AllReadyH.cons (o:=⟨some 30,.call ⟨.value (.func 101),#[.tmp 28,.tmp 29],#[141,60]⟩,82, "l7_vault.go:227",#[Al 3,Al 4],none⟩) rfl (fun K a=> ?_) (AllReadyH.cons (o:=⟨some 5,.alloc 82,0, "l7_vault.go:227",#[],none⟩) rfl (fun K a=> ?_) AllReadyH.nil)
   ·go_simp;refine(HA.o w2.drew TB).mono ?_;rintro o w3 ⟨yL,c,sm,le,p,q,rfl,H⟩;try go_simp
    refine a.out _ _ (tO.o _ _ E yL) (fun yA=> ?_);clear a K;try simp only[Act.put,Az]
    refine Br 6 ⟨some 5,.alloc 82,0, "l7_vault.go:227",#[],none⟩ (fun K a=> ?_);go_simp;refine a.out _ _ (zE.o _ _ yA (Zy)) (fun zJ=> ?_);clear a K;try simp only[Act.put,Az]
    have yT:(#[Zg c,Zf,Zf,Zf,Zf,Zc,Zc,Zc,.string sm,Zg le,.string p,.string q]:Array Value).all (·.oneCell')=true:=by simp[Value.oneCell']
    refine Br 7 ⟨none,.store 82 (.tmp 5) (.tmp 30),0, "l7_vault.go:227",#[Al 6,Al 5,⟨5,.chain⟩,Ag 0,Ag 1,Ag 2,Ag 3,Ag 4,Ag 5,Ag 6],none⟩ (fun K a=> ?_);rw[if_pos (by rfl)];refine wp_store_mid 82 _ _ rfl w3.heap.size 0 #[Zg c,Zf,Zf,Zf,Zf,Zc,Zc,Zc,.string sm,Zg le,.string p,.string q] rfl rfl (Aa.new w3 z12 82).there (by kernel_rfl) yT ?_
    refine a.out _ _ (yE.o _ _ _ zJ (by have:=yL.size;simp at this;omega) (AP _ _ _ _)) (fun zG=> ?_);clear a K;try simp only[Act.put]
    refine wpAnyH_done (by kernel_rfl) ?_ _;refine NoPanic.normal ?_;go_wp2_with fail;go_meet
    exact⟨w3.heap.size,rfl,zK.o (w3.alloc (.cells z12.toArray 82)) w3.heap.size c sm le p q yL.size ((Qi (Tn.of (V:=[]) (Below.refl _ _).drew) yL).trans ((Tn.of (V:=[]) (Zy)).mono (by simp))) (heap_alloc_new _ _) (by rcases H with h|⟨h5,h6,h7,r,h8,h9,tQ,tR⟩;exact .inl h;exact .inr ⟨h5,h6,h7,r,h8,h9,tQ,HY.o r _ _ w3.heap.size tR (fun h=>by have:=HV.o.1 _ h;have:=yL.size;simp at this;omega) (.inl (Zx)) ((Tn.of (V:=[]) (Zy)).mono (by simp))⟩)⟩
   ·go_simp;refine a.out _ _ (zE.o _ _ E (Zy)) (fun yA=> ?_);clear a K;try simp only[Act.put,Az]
    refine Br 5 ⟨some 30,.call ⟨.value (.func 101),#[.tmp 28,.tmp 29],#[141,60]⟩,82, "l7_vault.go:227",#[Al 3,Al 4],none⟩ (fun K a=> ?_);go_simp;refine(HA.o _ TA).mono ?_;rintro o w3 ⟨yL,c,sm,le,p,q,rfl,H⟩;try go_simp
    refine a.out _ _ (tO.o _ _ yA yL) (fun zJ=> ?_);clear a K;try simp only[Act.put,Az]
    have yT:(#[Zg c,Zf,Zf,Zf,Zf,Zc,Zc,Zc,.string sm,Zg le,.string p,.string q]:Array Value).all (·.oneCell')=true:=by simp[Value.oneCell']
    have nA:w3.heap[w2.heap.size]?=some (.cells z12.toArray 82 (0,0)):=(yL.block w2.heap.size (by simp) rB).trans (show(w2.alloc (.cells Yr 82)).heap[w2.heap.size]?=_ from heap_alloc_new _ _);refine Br 7 ⟨none,.store 82 (.tmp 5) (.tmp 30),0, "l7_vault.go:227",#[Al 6,Al 5,⟨5,.chain⟩,Ag 0,Ag 1,Ag 2,Ag 3,Ag 4,Ag 5,Ag 6],none⟩ (fun K a=> ?_);rw[if_pos (by rfl)]
    refine wp_store_mid 82 _ _ rfl w2.heap.size 0 #[Zg c,Zf,Zf,Zf,Zf,Zc,Zc,Zc,.string sm,Zg le,.string p,.string q] rfl rfl (Aa.fy nA).there (by kernel_rfl) yT ?_;refine a.out _ _ (yE.o _ _ _ zJ (by have:=yL.size;simp at this;omega) (AP _ _ _ _)) (fun zG=> ?_);clear a K;try simp only[Act.put]
    refine wpAnyH_done (by kernel_rfl) ?_ _;refine NoPanic.normal ?_;go_wp2_with fail;go_meet;exact⟨w2.heap.size,rfl,zK.o w3 w2.heap.size c sm le p q (Zx) (Qi ((Tn.of (V:=[]) bA).mono (by simp)) yL) nA H⟩
  case rest=>
  clear zE tO yE zK vE vF;revert wc;intro i hcut;obtain⟨cb,rfl,hcut⟩:=hcut;obtain⟨sW,xR,c,sm,le,p,q,xC,H⟩:=hcut.o;clear hcut HA e0 e1 e2 e3 e4 e5 xH TA TB bA rB;have z4:=xR.size;have vE:k∉V:=fun h=>by have:=HV.o.1 k h;omega
  have tU:∀j,k<=j->j∉V:=fun j hj h=>by have:=HV.o.1 j h;omega
  have yV:=Yx (Zb (Aa.same zH.o.1 (xR.block _ zH.o.1.lt vE)) (Zb (Aa.same zH.o.2.1 (xR.block _ zH.o.2.1.lt (tU _ (by omega)))) (Aa.same zH.o.2.2 (xR.block _ zH.o.2.2.lt (tU _ (by omega))))));have xU:Hid (Below lo w i):=xA.o.1.trans (xR.below (Zm zU.o xA.o.1.size) (fun b hb=>(HV.o.1 b hb).1));have xP:Hid (w2.heap.size<=cb/\cb<i.heap.size):=⟨sW,xC.lt⟩;clear xR zH xA vE tU sW q1
  rcases H with⟨tV,rfl,rfl⟩|⟨rfl,rfl,rfl,r,hy,rfl,rfl,sV⟩
  ·have rY:(c==0)=false:=by have:=Fu.code tV;simp;omega
   have xW:Hid (Hb v e c p q):=.inr ⟨vT.o,.inl tV⟩;obtain⟨u0,_⟩:=xC 0 _ rfl;obtain⟨qR,_⟩:=xC 10 _ rfl;obtain⟨qS,_⟩:=xC 11 _ rfl;clear xC tV HS HF HP HO HH HY vQ HV vU xX;obtain⟨W9,zS⟩:∃Y,Y=i.setCells (w.heap.size+1) 0 [Zg c,Zf,Zf,Zc,Zc,Zf,Zf,Zf,Zf,Zc,Zc,Zc,Zf,Zc,Zc,Zf,Zf,Zf,Zd,Zf,.string p,.string q]:=⟨_,rfl⟩;obtain⟨yR,zC⟩:∃Y,Y=W9.setCell (Ze k 0) (.int .i32 0):=⟨_,rfl⟩
   obtain⟨l0,g0,yI,yF⟩:=JI (z:=Zf) (cs:=[Zg c,Zf,Zf,Zc,Zc,Zf,Zf,Zf,Zf,Zc,Zc,Zc,Zf,Zc,Zc,Zf,Zf,Zf,Zd,Zf,.string p,.string q]) yV.o.1 yV.o.2.2 rfl (by have:=zA.o;omega) zS zC;have zZ:=Yx (Zn (show(#[Zg c,Zf,Zf,Zc,Zc,Zf,Zf,Zf,Zf,Zc,Zc,Zc,Zf,Zc,Zc,Zf,Zf,Zf,Zd,Zf,.string p,.string q]:Array Value).all (·.oneCell')=true by kernel_rfl) yV.o.2.2.there)
   have xB:Hid (Below lo w yR):=xU.o.trans (yF.below (Zm zU.o xU.o.size) (by have:=zA.o;simp;omega));have HU:=Yx (Zn l0 g0);have A:=Yx yI;have xD:=Yx zS;have yC:=Yx zC;clear zS zC l0 g0 yI yF;go_wp2_with (refine wpList_store_mid rfl 45 _ _ rfl (w.heap.size+1) 0 #[Zg c,Zf,Zf,Zc,Zc,Zf,Zf,Zf,Zf,Zc,Zc,Zc,Zf,Zc,Zc,Zf,Zf,Zf,Zd,Zf,.string p,.string q] rfl rfl zZ.o.2 (by kernel_rfl) zZ.o.1 ?_);rw[←xD.o]
   refine leaves_cons (f:=99) (args:= #[Yz k]) (by simp) (by simp[go_sem]) ?_;refine(unlock_deferred Lm ⟨k,0,none⟩ .returning _ HU.o.1 HU.o.2).mono ?_;rintro o u' sC ⟨rfl,rfl,rfl⟩;rw[←yC.o];exact⟨_,BN results46 _ _ (w.heap.size+1) [Zg c,Zf,Zf,Zc,Zc,Zf,Zf,Zf,Zf,Zc,Zc,Zc,Zf,Zc,Zc,Zf,Zf,Zf,Zd,Zf,.string p,.string q] _ rfl (Aa.range A.o) underlying45 rfl (by kernel_rfl),xB.o,.inl ⟨c,p,q,xW.o,rfl⟩⟩
  ·have sH:=Yx xC;have sP:Hid (Y r i):=sV;have Hy:Hid (e.yes v r):=hy;obtain⟨u0,_⟩:=xC 0 _ rfl;clear hy sV xC;go_upto_region 8 with fail;clear u0;obtain⟨w5,tY⟩:∃Y,Y=(i.alloc (.cells Ya 43)).setCells i.heap.size 0 [Zg v.wd,Zg v.ak,x,y,b0,b1,b2,b3,b4,b5,b6,c0,c1,c2,c3,c4,c5]:=⟨_,rfl⟩;have hb:=boxed (X:=i) (cs:=[Zg v.wd,Zg v.ak,x,y,b0,b1,b2,b3,b4,b5,b6,c0,c1,c2,c3,c4,c5]) (z:=Xz) (T:=43) rfl
   rw[show(i.alloc (.cells Xz.toArray 43)).setCells i.heap.size 0 [Zg v.wd,Zg v.ak,x,y,b0,b1,b2,b3,b4,b5,b6,c0,c1,c2,c3,c4,c5]=w5 from tY.symm]at hb;obtain⟨x5,xG,z5⟩:=hb;have tK:Hid ((i.alloc (.cells Ya 43)).there i.heap.size 0 17/\(#[Zg v.wd,Zg v.ak,x,y,b0,b1,b2,b3,b4,b5,b6,c0,c1,c2,c3,c4,c5]:Array Value).all (·.oneCell')=true):=⟨(Aa.new i Xz 43).there,all_oneCell_toArray vU.o⟩
   have xF:Hid (Aa w5 k [.int .i32 1,.int .u32 0,Zg v.wd,Zg v.ak,x,y,b0,b1,b2,b3,b4,b5,b6,c0,c1,c2,c3,c4,c5,Yz d]/\Aa w5 w.heap.size (Yo e.kd e.s e.nm e.num e.tx ra e.rf.length rc)/\Aa w5 (w.heap.size+1) CN/\Aa w5 cb [Zf,Zf,Zf,Zf,Zf,Zc,Zc,Zc,.string r.sm,Zg r.le,Zd,Zd]/\Aa w5 i.heap.size [Zg v.wd,Zg v.ak,x,y,b0,b1,b2,b3,b4,b5,b6,c0,c1,c2,c3,c4,c5]):=⟨Aa.below yV.o.1 xG,Aa.below yV.o.2.1 xG,Aa.below (v:=Zf) yV.o.2.2 xG,Aa.below sH.o xG,x5⟩
   have tF:Hid (Below lo w w5):=xU.o.trans (xG.mono (Zm zU.o xU.o.size));have xY:Hid (Y r w5):=HY.o r _ _ i.heap.size sP.o (fun h=>by have:=HV.o.1 _ h;have:=zA.o;omega) (.inl (Zx)) ((Tn.of (V:=[]) xG).mono (by simp));have sN:=Yx tY;clear tY x5 xG vU xU sP HY;go_upto_region 9 with(first
    |refine wpList_load_mid rfl 43 _ rfl k 2 rfl [Zg v.wd,Zg v.ak,x,y,b0,b1,b2,b3,b4,b5,b6,c0,c1,c2,c3,c4,c5] _ (Aa.fp [.int .i32 1,.int .u32 0] [Zg v.wd,Zg v.ak,x,y,b0,b1,b2,b3,b4,b5,b6,c0,c1,c2,c3,c4,c5] [Yz d] yV.o.1) underlying43 rfl (by kernel_rfl) ?_
    |refine wpList_store_mid rfl 43 _ _ rfl i.heap.size 0 #[Zg v.wd,Zg v.ak,x,y,b0,b1,b2,b3,b4,b5,b6,c0,c1,c2,c3,c4,c5] rfl rfl tK.o.1 (by kernel_rfl) tK.o.2 ?_)
   rw[←sN.o];clear sN tK yV sH;obtain⟨xH,_⟩:=xF.o.1 19 _ rfl;go_wp2_with fail;refine(HS.o r w5 xY.o).mono ?_;rintro o w6 ⟨ta,tc,pa,pc,la,lc,rs,rfl,tS,yJ⟩;have z6:=yJ.size
   have zO:Hid (Aa w6 k [.int .i32 1,.int .u32 0,Zg v.wd,Zg v.ak,x,y,b0,b1,b2,b3,b4,b5,b6,c0,c1,c2,c3,c4,c5,Yz d]/\Aa w6 w.heap.size (Yo e.kd e.s e.nm e.num e.tx ra e.rf.length rc)/\Aa w6 (w.heap.size+1) CN/\Aa w6 cb [Zf,Zf,Zf,Zf,Zf,Zc,Zc,Zc,.string r.sm,Zg r.le,Zd,Zd]/\Aa w6 i.heap.size [Zg v.wd,Zg v.ak,x,y,b0,b1,b2,b3,b4,b5,b6,c0,c1,c2,c3,c4,c5]):=⟨Aa.below xF.o.1 yJ,Aa.below xF.o.2.1 yJ,Aa.below (v:=Zf) xF.o.2.2.1 yJ,Aa.below xF.o.2.2.2.1 yJ,Aa.below xF.o.2.2.2.2 yJ⟩
   obtain⟨W7,vC⟩:∃Y,Y=(((((((w6.setCell (Ze (i.heap.size) 4) (Zg v.wd)).setCell (Ze (i.heap.size) 5) (Zg r.now)).setCell (Ze (i.heap.size) 6) (Zg r.given)).setCell (Ze (i.heap.size) 7) (Zg r.ae)).setCell (Ze (i.heap.size) 8) (.slice ta r.ks.length tc)).setCell (Ze (i.heap.size) 9) (.slice pa r.ps.length pc)).setCell (Ze (i.heap.size) 10) (.slice la r.ls.length lc)):=⟨_,rfl⟩
   have t7:Tn [i.heap.size] w6 W7:=by rw[vC];exact(((((((Tn.set _ _ _ _ (by simp)).trans (Tn.set _ _ _ _ (by simp))).trans (Tn.set _ _ _ _ (by simp))).trans (Tn.set _ _ _ _ (by simp))).trans (Tn.set _ _ _ _ (by simp))).trans (Tn.set _ _ _ _ (by simp))).trans (Tn.set _ _ _ _ (by simp)))
   have qO:W7.heap.size=w6.heap.size:=by rw[vC];simp
   have x7:Aa W7 i.heap.size [Zg v.wd,Zg v.ak,x,y,Zg v.wd,Zg r.now,Zg r.given,Zg r.ae,.slice ta r.ks.length tc,.slice pa r.ps.length pc,.slice la r.ls.length lc,c0,c1,c2,c3,c4,c5]:=by rw[vC];exact(((((((zO.o.2.2.2.2.set 4 _).set 5 _).set 6 _).set 7 _).set 8 _).set 9 _).set 10 _)
   have q1:=zA.o;have q2:=xP.o;have rA:m<w.heap.size:=by have:=HV.o.1 m HV.o.2.2;omega
   have zR:=Yx (Zb (Aa.same zO.o.1 (t7.block _ zO.o.1.lt (by simp;omega))) (Zb (Aa.same zO.o.2.1 (t7.block _ zO.o.2.1.lt (by simp;omega))) (Zb (Aa.same zO.o.2.2.1 (t7.block _ zO.o.2.2.1.lt (by simp;omega))) (Zb (Aa.same zO.o.2.2.2.1 (t7.block _ zO.o.2.2.2.1.lt (by simp;omega))) x7))));have tP:=tF.o.trans (yJ.mono (Zm zU.o tF.o.size))
   have tG:Hid (Below lo w W7):=tP.trans (t7.below (Zm zU.o tP.size) (by simp;omega));have vW:Hid (AO W7 w5.heap.size (.slice ta r.ks.length tc) (.slice pa r.ps.length pc) (.slice la r.ls.length lc) rs r.ks r.ps r.ls/\∀g∈Bb (.slice ta r.ks.length tc) (.slice pa r.ps.length pc) (.slice la r.ls.length lc) rs,g<W7.heap.size):=⟨tS.an t7 (by simp;omega),fun g hg=>by have:=tS.cg g hg;omega⟩
   have vR:Hid (W7.heap[m]?=w5.heap[m]? /\m<w.heap.size):=⟨(t7.block m (by omega) (by simp;omega)).trans (yJ.block m (by omega)),rA⟩;have tI:Hid (W7.cell? (Ze d 0)=some (Zg v.wd)/\W7.cell? (Ze d 1)=some (.map (some m))):=by
    have qP:d<w.heap.size:=by have:=HV.o.1 d HV.o.2.1;omega
    have e7:W7.heap[d]?=w5.heap[d]?:=(t7.block d (by omega) (by simp;omega)).trans (yJ.block d (by omega));obtain⟨p1,p2⟩:=vQ.o r w5 xY.o;exact⟨(cell_of_block e7 _).trans p1,(cell_of_block e7 _).trans p2⟩
   obtain⟨y4,f4⟩:=zO.o.2.2.2.2 4 _ rfl;obtain⟨y5,f5⟩:=zO.o.2.2.2.2 5 _ rfl;obtain⟨y6,f6⟩:=zO.o.2.2.2.2 6 _ rfl;obtain⟨y7,f7⟩:=zO.o.2.2.2.2 7 _ rfl;obtain⟨y8,f8⟩:=zO.o.2.2.2.2 8 _ rfl;obtain⟨y9,f9⟩:=zO.o.2.2.2.2 9 _ rfl;obtain⟨qM,rW⟩:=zO.o.2.2.2.2 10 _ rfl;have sO:=Yx vC;clear vC t7 x7 tP yJ tS zO xF tF HS vQ xH rA q1 q2;go_upto_region 10 with fail;rw[←sO.o]
   clear sO y4 f4 y5 f5 y6 f6 y7 f7 y8 f8 y9 f9 qM rW
   as_aux_lemma=>
   obtain⟨g0,_⟩:=zR.o.2.1 0 _ rfl;obtain⟨n1,_⟩:=zR.o.2.2.2.2 1 _ rfl;obtain⟨n4,_⟩:=zR.o.2.2.2.2 4 _ rfl;obtain⟨n5,_⟩:=zR.o.2.2.2.2 5 _ rfl;obtain⟨n6,_⟩:=zR.o.2.2.2.2 6 _ rfl;obtain⟨n7,_⟩:=zR.o.2.2.2.2 7 _ rfl;obtain⟨n8,_⟩:=zR.o.2.2.2.2 8 _ rfl;obtain⟨n9,_⟩:=zR.o.2.2.2.2 9 _ rfl;obtain⟨rH,_⟩:=zR.o.2.2.2.2 10 _ rfl;have rO:Hid (BH W7 W7.heap.size ta r.ks):=vW.o.1.get.k
   go_cut [61]from 9 to 100 (fun bg wx=>bg=.bool false/\Hid (Zz W7 wx))
   case first=>
    have qQ:(e.kd==1)=false:=by simpa using sJ.o
    clear n1 n4 n5 n6 n7 n8 n9 rH;refine wp_region_noPanic ?_;refine wp_region_held_drew (S:=fun X=>X.cell? (Ze (w.heap.size) 0)=some (Zg e.kd)) (by kernel_rfl) g0 (fun E=> ?_);refine Bq 0 ⟨some 51,.fieldAddr 60 (.tmp 3) 0,0, "l7_vault.go:233",#[],none⟩ (Yz w.heap.size) (by exact E) ?_;try simp only[Act.put,Az]
    refine Et 1 ⟨some 52,.load 3 (.tmp 51),3, "l7_vault.go:233",#[Al 0],none⟩ (Zg e.kd) (by exact Or.inl ⟨by rfl,fun X hX=>by have B:=hX;go_simp⟩) (by exact E) ?_;try simp only[Act.put,Az]
    refine Bq 2 ⟨some 53,.binOp .eql 3 (.tmp 52) (.const (Zg 1)) 3,4, "l7_vault.go:233",#[Al 1],none⟩ (.bool false) (by exact E) ?_;try simp only[Act.put,Az]
    refine Bq 3 ⟨some 54,.move (.tmp 53),4, "l7_vault.go:233",#[Al 2],none⟩ (.bool false) (by exact E) ?_;try simp only[Act.put,Az]
    refine DV 4 ⟨some 55,.fieldAddr 43 (.tmp 6) 3,0, "l7_vault.go:233",#[⟨3,.guard⟩],some (3,true)⟩ (by exact E) ?_;try simp only[Act.put,Az]
    refine DV 5 ⟨some 56,.load 40 (.tmp 55),40, "l7_vault.go:233",#[Al 4,⟨3,.guard⟩],some (3,true)⟩ (by exact E) ?_;try simp only[Act.put,Az]
    refine DV 6 ⟨some 57,.call ⟨.value (.func 102),#[.tmp 56],#[40]⟩,3, "l7_vault.go:233",#[Al 5,⟨3,.chain⟩,⟨3,.guard⟩],some (3,true)⟩ (by exact E) ?_;try simp only[Act.put,Az]
    refine DV 7 ⟨some 58,.fieldAddr 43 (.tmp 6) 1,0, "l7_vault.go:233",#[⟨3,.guard⟩],some (3,true)⟩ (by exact E) ?_;try simp only[Act.put,Az]
    refine DV 8 ⟨some 59,.load 3 (.tmp 58),3, "l7_vault.go:233",#[Al 7,⟨3,.guard⟩],some (3,true)⟩ (by exact E) ?_;try simp only[Act.put,Az]
    refine DV 9 ⟨some 60,.binOp .gtr 3 (.tmp 57) (.tmp 59) 3,4, "l7_vault.go:233",#[Al 6,Al 8,⟨3,.guard⟩],some (3,true)⟩ (by exact E) ?_;try simp only[Act.put,Az]
    refine Bq 10 ⟨some 61,.pick (.tmp 54) (.tmp 60) (.const (.bool false)),4, "l7_vault.go:233",#[Al 3,Al 9],none⟩ (.bool false) (by exact E) ?_;try simp only[Act.put,Az]
    refine wpAnyH_done (by kernel_rfl) ?_ _;refine NoPanic.normal ?_;go_wp2_with fail;go_meet;exact⟨rfl,(Below.refl W7.heap.size W7).drew⟩
   case rest=>
   revert wc;intro G hcut;obtain⟨rfl,yG⟩:=hcut;have z8:=yG.o.size
   have zI:Hid (Aa G k [.int .i32 1,.int .u32 0,Zg v.wd,Zg v.ak,x,y,b0,b1,b2,b3,b4,b5,b6,c0,c1,c2,c3,c4,c5,Yz d]/\Aa G w.heap.size (Yo e.kd e.s e.nm e.num e.tx ra e.rf.length rc)/\Aa G (w.heap.size+1) CN/\Aa G cb [Zf,Zf,Zf,Zf,Zf,Zc,Zc,Zc,.string r.sm,Zg r.le,Zd,Zd]/\Aa G i.heap.size [Zg v.wd,Zg v.ak,x,y,Zg v.wd,Zg r.now,Zg r.given,Zg r.ae,.slice ta r.ks.length tc,.slice pa r.ps.length pc,.slice la r.ls.length lc,c0,c1,c2,c3,c4,c5]):=⟨Aa.below zR.o.1 yG.o,Aa.below zR.o.2.1 yG.o,Aa.below (v:=Zf) zR.o.2.2.1 yG.o,Aa.below zR.o.2.2.2.1 yG.o,Aa.below zR.o.2.2.2.2 yG.o⟩
   have xV:Hid (Below lo w G):=tG.o.trans (yG.o.mono (Zm zU.o tG.o.size));clear g0 n1 n4 n5 n6 n7 n8 n9 rH rO zR tG;have tM:Hid (¬e.gw v r):=by show ¬(e.fw v r=true);simp[Ed.fw];exact fun h=>absurd h sJ.o
   have tN:Hid (AO G w5.heap.size (.slice ta r.ks.length tc) (.slice pa r.ps.length pc) (.slice la r.ls.length lc) rs r.ks r.ps r.ls/\∀g∈Bb (.slice ta r.ks.length tc) (.slice pa r.ps.length pc) (.slice la r.ls.length lc) rs,g<G.heap.size):=⟨vW.o.1.below yG.o,fun g hg=>by have:=vW.o.2 g hg;omega⟩
   have vS:Hid (G.heap[m]?=w5.heap[m]? /\m<w.heap.size):=⟨(yG.o.block m (by have:=vR.o.2;have:=zA.o;omega)).trans vR.o.1,vR.o.2⟩;have tJ:Hid (G.cell? (Ze d 0)=some (Zg v.wd)/\G.cell? (Ze d 1)=some (.map (some m))):=by have e8:G.heap[d]?=W7.heap[d]?:=yG.o.block d (by have:=HV.o.1 d HV.o.2.1;have:=zA.o;omega);exact⟨(cell_of_block e8 _).trans tI.o.1,(cell_of_block e8 _).trans tI.o.2⟩
   clear vW vR tI yG
   as_aux_lemma=>
   obtain⟨e0,_⟩:=zI.o.2.1 0 _ rfl;obtain⟨e1,_⟩:=zI.o.2.1 1 _ rfl;obtain⟨e2,_⟩:=zI.o.2.1 2 _ rfl;obtain⟨e3,_⟩:=zI.o.2.1 3 _ rfl;obtain⟨e4,_⟩:=zI.o.2.1 4 _ rfl;obtain⟨e5,_⟩:=zI.o.2.1 5 _ rfl;obtain⟨n0,_⟩:=zI.o.2.2.2.2 0 _ rfl;obtain⟨n2,_⟩:=zI.o.2.2.2.2 2 _ rfl;obtain⟨n3,_⟩:=zI.o.2.2.2.2 3 _ rfl;obtain⟨et,tT⟩:∃t,t=e.bt v.wd:=⟨_,rfl⟩;rw[←tT]at HF HP;have sI:=Yx tT;clear tT
   go_upto_region 12 with fail
   have zE:Hid (∀X s,(Aa X w.heap.size (Yo e.kd e.s e.nm e.num e.tx ra e.rf.length rc)/\Aa X i.heap.size [Zg v.wd,Zg v.ak,x,y,Zg v.wd,Zg r.now,Zg r.given,Zg r.ae,.slice ta r.ks.length tc,.slice pa r.ps.length pc,.slice la r.ls.length lc,c0,c1,c2,c3,c4,c5])->Zz X s->Aa s w.heap.size (Yo e.kd e.s e.nm e.num e.tx ra e.rf.length rc)/\Aa s i.heap.size [Zg v.wd,Zg v.ak,x,y,Zg v.wd,Zg r.now,Zg r.given,Zg r.ae,.slice ta r.ks.length tc,.slice pa r.ps.length pc,.slice la r.ls.length lc,c0,c1,c2,c3,c4,c5]):=fun X s B h2=>⟨Aa.below B.1 h2,Aa.below B.2 h2⟩
   have yE:Hid (∀X s lb,(Aa X w.heap.size (Yo e.kd e.s e.nm e.num e.tx ra e.rf.length rc)/\Aa X i.heap.size [Zg v.wd,Zg v.ak,x,y,Zg v.wd,Zg r.now,Zg r.given,Zg r.ae,.slice ta r.ks.length tc,.slice pa r.ps.length pc,.slice la r.ls.length lc,c0,c1,c2,c3,c4,c5])->G.heap.size<=lb->Tn [lb] X s->Aa s w.heap.size (Yo e.kd e.s e.nm e.num e.tx ra e.rf.length rc)/\Aa s i.heap.size [Zg v.wd,Zg v.ak,x,y,Zg v.wd,Zg r.now,Zg r.given,Zg r.ae,.slice ta r.ks.length tc,.slice pa r.ps.length pc,.slice la r.ls.length lc,c0,c1,c2,c3,c4,c5]):=fun X s lb B hc h2=>by
    have q1:=zA.o;have q2:=zI.o.2.2.2.2.lt;exact⟨Aa.same B.1 (h2.block _ B.1.lt (by simp;omega)),Aa.same B.2 (h2.block _ B.2.lt (by simp;omega))⟩
   have bA:Below G.heap.size G (G.alloc (.cells #[Zc,Zc] 35)).drew:=(Zy).drew;have xO:Hid (∀X,Zz G X->Below lo w X):=fun X hX=>xV.o.trans (hX.mono (Zm zU.o xV.o.size));go_cut [7,8]from 9 to 100 (fun pl nc wx=>∃(lb:Nat) (I:Zk) (sn J:Nat) (N:Zk) (F O:Nat) (c:Int),pl=Yz lb/\nc=Zg c/\Hid (Aa wx lb [.slice I sn J,.slice N F O]/\G.heap.size<=lb/\Zz G wx/\Li v et G.heap.size wx I sn J N F O c))
   case first=>
    refine wp_region_noPanic ?_;refine wp_region_held_drew (S:=fun X=>Aa X w.heap.size (Yo e.kd e.s e.nm e.num e.tx ra e.rf.length rc)/\Aa X i.heap.size [Zg v.wd,Zg v.ak,x,y,Zg v.wd,Zg r.now,Zg r.given,Zg r.ae,.slice ta r.ks.length tc,.slice pa r.ps.length pc,.slice la r.ls.length lc,c0,c1,c2,c3,c4,c5]) (by kernel_rfl) (show _/\_ from⟨zI.o.2.1,zI.o.2.2.2.2⟩) (fun E=> ?_)
    refine Bq 0 ⟨some 64,.fieldAddr 43 (.tmp 6) 2,0, "l7_vault.go:236",#[],none⟩ (Yy i.heap.size 2) (by exact E) ?_;try simp only[Act.put,Az]
    refine Et 1 ⟨some 65,.load 35 (.tmp 64),35, "l7_vault.go:236",#[Al 0],none⟩ (.agg #[x,y]) (by exact yieldsIf_load_mid (by rfl) 35 _ rfl (i.heap.size) 2 rfl [x,y] _ (fun X h=>Aa.fp [Zg v.wd,Zg v.ak] [x,y] _ h.2) underlying35 rfl (by kernel_rfl)) (by exact E) ?_;try simp only[Act.put,Az]
    refine Et 2 ⟨some 66,.load 60 (.tmp 3),60, "l7_vault.go:236",#[],none⟩ (.agg (Yp e.kd e.s e.nm e.num e.tx ra e.rf.length rc)) (by exact yieldsIf_load_mid (by rfl) 60 _ rfl (w.heap.size) 0 rfl (Yo e.kd e.s e.nm e.num e.tx ra e.rf.length rc) _ (fun X h=>h.1.range) underlying60 rfl (by kernel_rfl)) (by exact E) ?_;try simp only[Act.put,Az]
    refine Bq 3 ⟨some 67,.fieldAddr 43 (.tmp 6) 0,0, "l7_vault.go:236",#[],none⟩ (Yz i.heap.size) (by exact E) ?_;try simp only[Act.put,Az]
    refine Et 4 ⟨some 68,.load 3 (.tmp 67),3, "l7_vault.go:236",#[Al 3],none⟩ (Zg v.wd) (by exact Or.inl ⟨by rfl,fun X hX=>by have B:=(hX.2 0 _ rfl).1;go_simp⟩) (by exact E) ?_;try simp only[Act.put,Az]
    refine wpAnyH_ready (rs:=[5,10]) (by kernel_rfl) (by simp) ?_;refine AllReadyH.cons (o:=⟨some 69,.call ⟨.value (.func 104),#[.tmp 66,.tmp 68],#[60,3]⟩,9, "l7_vault.go:236",#[Al 2,Al 4],none⟩) rfl (fun K a=> ?_) (AllReadyH.cons (o:=⟨some 7,.alloc 35,0, "l7_vault.go:236",#[],none⟩) rfl (fun K a=> ?_) AllReadyH.nil)
    ·go_simp;refine(HF.o G.drew (xO.o _ (Below.refl _ _).drew)).mono ?_;rintro o w9 ⟨rfl,xI⟩;try go_simp
     refine a.out _ _ (zE.o _ _ E xI) (fun yA=> ?_);clear a K;try simp only[Act.put,Az]
     have zF:Below G.heap.size G w9:=(Below.refl G.heap.size G).drew.trans xI;refine wpAnyH_ready (rs:=[6,10]) (by kernel_rfl) (by simp) ?_
     refine AllReadyH.cons (o:=⟨some 70,.call ⟨.value (.func 103),#[.tmp 65,.tmp 69],#[35,9]⟩,168, "l7_vault.go:236",#[Al 1,Al 5,⟨5,.chain⟩],none⟩) rfl (fun K a=> ?_) (AllReadyH.cons (o:=⟨some 7,.alloc 35,0, "l7_vault.go:236",#[],none⟩) rfl (fun K a=> ?_) AllReadyH.nil)
     ·go_simp;refine(HP.o w9 (xO.o _ zF)).mono ?_;rintro o zB ⟨zM,I,sn,J,N,F,O,c,rfl,H⟩;try go_simp
      refine a.out _ _ (zE.o _ _ yA zM) (fun zJ=> ?_);clear a K;try simp only[Act.put,Az]
      have C:=zF.trans (zM.mono zF.size);have zX:(#[.slice I sn J,.slice N F O]:Array Value).all (·.oneCell')=true:=by simp[Value.oneCell']
      refine Bq 7 ⟨some 63,.move (.tmp 70),168, "l7_vault.go:236",#[Al 6],none⟩ (.tuple #[.agg #[.slice I sn J,.slice N F O],Zg c]) (by exact zJ) ?_;try simp only[Act.put,Az]
      refine Bq 8 ⟨some 71,.extract (.tmp 63) 0,35, "l7_vault.go:236",#[Al 7],none⟩ (.agg #[.slice I sn J,.slice N F O]) (by exact zJ) ?_;try simp only[Act.put,Az]
      refine Bq 9 ⟨some 72,.extract (.tmp 63) 1,3, "l7_vault.go:236",#[Al 7,{on:=11,ground:=.gcOnly Departure.lateStores}],none⟩ (Zg c) (by exact zJ) ?_;try simp only[Act.put,Az]
      refine Br 10 ⟨some 7,.alloc 35,0, "l7_vault.go:236",#[],none⟩ (fun K a=> ?_);go_simp;refine a.out _ _ (zE.o _ _ zJ (Zy)) (fun zG=> ?_);clear a K;try simp only[Act.put,Az]
      refine Br 11 ⟨none,.store 35 (.tmp 7) (.tmp 71),0, "l7_vault.go:236",#[Al 10,Al 8,⟨6,.chain⟩,Ag 0,Ag 1,Ag 2,Ag 3,Ag 4,Ag 5,Ag 6,Ag 7,Ag 8,{on:=9,ground:=.textOnly Departure.lateStores},Ag 10],none⟩ (fun K a=> ?_);rw[if_pos (by rfl)];refine wp_store_mid 35 _ _ rfl zB.heap.size 0 #[.slice I sn J,.slice N F O] rfl rfl (Aa.new zB [Zc,Zc] 35).there (by kernel_rfl) zX ?_
      refine a.out _ _ (yE.o _ _ _ zG (by have:=C.size;have:=zF.size;omega) (AP _ _ _ _)) (fun zV=> ?_);clear a K;try simp only[Act.put]
      refine Bq 12 ⟨some 8,.assign (.tmp 72),3, "l7_vault.go:236",#[Al 9,⟨11,.chain⟩,Ag 0,Ag 1,Ag 2,Ag 3,Ag 4,Ag 5,Ag 6,Ag 7,Ag 8,Ag 9,Ag 10,Ag 11],none⟩ (Zg c) (by exact zV) ?_;try simp only[Act.put,Az]
      refine wpAnyH_done (by kernel_rfl) ?_ _;refine NoPanic.normal ?_;go_wp2_with fail;go_meet;exact⟨zB.heap.size,I,sn,J,N,F,O,c,rfl,rfl,WS C zF.size H⟩
     ·go_simp;refine a.out _ _ (zE.o _ _ yA (Zy)) (fun zJ=> ?_);clear a K;try simp only[Act.put,Az]
      have bB:Below w9.heap.size w9 (w9.alloc (.cells #[Zc,Zc] 35)):=(Zy);refine Br 6 ⟨some 70,.call ⟨.value (.func 103),#[.tmp 65,.tmp 69],#[35,9]⟩,168, "l7_vault.go:236",#[Al 1,Al 5,⟨5,.chain⟩],none⟩ (fun K a=> ?_);go_simp;refine(HP.o _ (xO.o _ (zF.trans (bB.mono zF.size)))).mono ?_;rintro o zB ⟨zM,I,sn,J,N,F,O,c,rfl,H⟩;try go_simp
      refine a.out _ _ (zE.o _ _ zJ zM) (fun zG=> ?_);clear a K;try simp only[Act.put,Az]
      have C:=(zF.trans (bB.mono zF.size)).trans (zM.mono (Zm zF.size bB.size));have nB:zB.heap[w9.heap.size]?=some (.cells [Zc,Zc].toArray 35 (0,0)):=(zM.block w9.heap.size (by simp)).trans (heap_alloc_new _ _);have zX:(#[.slice I sn J,.slice N F O]:Array Value).all (·.oneCell')=true:=by simp[Value.oneCell']
      refine Bq 7 ⟨some 63,.move (.tmp 70),168, "l7_vault.go:236",#[Al 6],none⟩ (.tuple #[.agg #[.slice I sn J,.slice N F O],Zg c]) (by exact zG) ?_;try simp only[Act.put,Az]
      refine Bq 8 ⟨some 71,.extract (.tmp 63) 0,35, "l7_vault.go:236",#[Al 7],none⟩ (.agg #[.slice I sn J,.slice N F O]) (by exact zG) ?_;try simp only[Act.put,Az]
      refine Bq 9 ⟨some 72,.extract (.tmp 63) 1,3, "l7_vault.go:236",#[Al 7,{on:=11,ground:=.gcOnly Departure.lateStores}],none⟩ (Zg c) (by exact zG) ?_;try simp only[Act.put,Az]
      refine Br 11 ⟨none,.store 35 (.tmp 7) (.tmp 71),0, "l7_vault.go:236",#[Al 10,Al 8,⟨6,.chain⟩,Ag 0,Ag 1,Ag 2,Ag 3,Ag 4,Ag 5,Ag 6,Ag 7,Ag 8,{on:=9,ground:=.textOnly Departure.lateStores},Ag 10],none⟩ (fun K a=> ?_);rw[if_pos (by rfl)];refine wp_store_mid 35 _ _ rfl w9.heap.size 0 #[.slice I sn J,.slice N F O] rfl rfl (Aa.fy nB).there (by kernel_rfl) zX ?_
      refine a.out _ _ (yE.o _ _ _ zG (by have:=C.size;have:=zF.size;omega) (AP _ _ _ _)) (fun zV=> ?_);clear a K;try simp only[Act.put]
      refine Bq 12 ⟨some 8,.assign (.tmp 72),3, "l7_vault.go:236",#[Al 9,⟨11,.chain⟩,Ag 0,Ag 1,Ag 2,Ag 3,Ag 4,Ag 5,Ag 6,Ag 7,Ag 8,Ag 9,Ag 10,Ag 11],none⟩ (Zg c) (by exact zV) ?_;try simp only[Act.put,Az]
      refine wpAnyH_done (by kernel_rfl) ?_ _;refine NoPanic.normal ?_;go_wp2_with fail;go_meet;exact⟨w9.heap.size,I,sn,J,N,F,O,c,rfl,rfl,TL (Aa.fy nB) C zF.size (by simp) (Zm zF.size (by simp)) H⟩
    ·go_simp;refine a.out _ _ (zE.o _ _ E (Zy)) (fun yA=> ?_);clear a K;try simp only[Act.put,Az]
     refine Br 5 ⟨some 69,.call ⟨.value (.func 104),#[.tmp 66,.tmp 68],#[60,3]⟩,9, "l7_vault.go:236",#[Al 2,Al 4],none⟩ (fun K a=> ?_);go_simp;refine(HF.o _ (xO.o _ bA)).mono ?_;rintro o w9 ⟨rfl,xI⟩;try go_simp
     refine a.out _ _ (zE.o _ _ yA xI) (fun zJ=> ?_);clear a K;try simp only[Act.put,Az]
     have zF:Below G.heap.size G w9:=bA.trans (xI.mono bA.size);have rF:G.heap.size<w9.heap.size:=by have:=xI.size;simp at this;omega
     refine Br 6 ⟨some 70,.call ⟨.value (.func 103),#[.tmp 65,.tmp 69],#[35,9]⟩,168, "l7_vault.go:236",#[Al 1,Al 5,⟨5,.chain⟩],none⟩ (fun K a=> ?_);go_simp;refine(HP.o w9 (xO.o _ zF)).mono ?_;rintro o zB ⟨zM,I,sn,J,N,F,O,c,rfl,H⟩;try go_simp
     refine a.out _ _ (zE.o _ _ zJ zM) (fun zG=> ?_);clear a K;try simp only[Act.put,Az]
     have C:=zF.trans (zM.mono zF.size);have nA:zB.heap[G.heap.size]?=some (.cells [Zc,Zc].toArray 35 (0,0)):=(zM.block G.heap.size rF).trans ((xI.block G.heap.size (by simp)).trans (show(G.alloc (.cells #[Zc,Zc] 35)).heap[G.heap.size]?=_ from heap_alloc_new _ _));have zX:(#[.slice I sn J,.slice N F O]:Array Value).all (·.oneCell')=true:=by simp[Value.oneCell']
     refine Bq 7 ⟨some 63,.move (.tmp 70),168, "l7_vault.go:236",#[Al 6],none⟩ (.tuple #[.agg #[.slice I sn J,.slice N F O],Zg c]) (by exact zG) ?_;try simp only[Act.put,Az]
     refine Bq 8 ⟨some 71,.extract (.tmp 63) 0,35, "l7_vault.go:236",#[Al 7],none⟩ (.agg #[.slice I sn J,.slice N F O]) (by exact zG) ?_;try simp only[Act.put,Az]
     refine Bq 9 ⟨some 72,.extract (.tmp 63) 1,3, "l7_vault.go:236",#[Al 7,{on:=11,ground:=.gcOnly Departure.lateStores}],none⟩ (Zg c) (by exact zG) ?_;try simp only[Act.put,Az]
     refine Br 11 ⟨none,.store 35 (.tmp 7) (.tmp 71),0, "l7_vault.go:236",#[Al 10,Al 8,⟨6,.chain⟩,Ag 0,Ag 1,Ag 2,Ag 3,Ag 4,Ag 5,Ag 6,Ag 7,Ag 8,{on:=9,ground:=.textOnly Departure.lateStores},Ag 10],none⟩ (fun K a=> ?_);rw[if_pos (by rfl)];refine wp_store_mid 35 _ _ rfl G.heap.size 0 #[.slice I sn J,.slice N F O] rfl rfl (Aa.fy nA).there (by kernel_rfl) zX ?_
     refine a.out _ _ (yE.o _ _ _ zG (by have:=C.size;have:=zF.size;omega) (AP _ _ _ _)) (fun zV=> ?_);clear a K;try simp only[Act.put]
     refine Bq 12 ⟨some 8,.assign (.tmp 72),3, "l7_vault.go:236",#[Al 9,⟨11,.chain⟩,Ag 0,Ag 1,Ag 2,Ag 3,Ag 4,Ag 5,Ag 6,Ag 7,Ag 8,Ag 9,Ag 10,Ag 11],none⟩ (Zg c) (by exact zV) ?_;try simp only[Act.put,Az]
     refine wpAnyH_done (by kernel_rfl) ?_ _;refine NoPanic.normal ?_;go_wp2_with fail;go_meet;exact⟨G.heap.size,I,sn,J,N,F,O,c,rfl,rfl,TL (Aa.fy nA) C (Zx) rF zF.size H⟩
   case rest=>
   revert wc;intro zB hcut;obtain⟨lb,I,sn,J,N,F,O,c,rfl,rfl,hcut⟩:=hcut;clear e0 e1 e2 e3 e4 e5 n0 n2 n3 HF HP bA xO zE yE;obtain⟨xL,sZ,C,H⟩:=hcut.o;have qN:=C.size
   have A:Hid (Aa zB k [.int .i32 1,.int .u32 0,Zg v.wd,Zg v.ak,x,y,b0,b1,b2,b3,b4,b5,b6,c0,c1,c2,c3,c4,c5,Yz d]/\Aa zB w.heap.size (Yo e.kd e.s e.nm e.num e.tx ra e.rf.length rc)/\Aa zB (w.heap.size+1) CN/\Aa zB cb [Zf,Zf,Zf,Zf,Zf,Zc,Zc,Zc,.string r.sm,Zg r.le,Zd,Zd]/\Aa zB i.heap.size [Zg v.wd,Zg v.ak,x,y,Zg v.wd,Zg r.now,Zg r.given,Zg r.ae,.slice ta r.ks.length tc,.slice pa r.ps.length pc,.slice la r.ls.length lc,c0,c1,c2,c3,c4,c5]):=⟨Aa.below zI.o.1 C,Aa.below zI.o.2.1 C,Aa.below (v:=Zf) zI.o.2.2.1 C,Aa.below zI.o.2.2.2.1 C,Aa.below zI.o.2.2.2.2 C⟩
   have yN:Hid (Below lo w zB):=xV.o.trans (C.mono (Zm zU.o xV.o.size));have tA:=Yx (Zb xL sZ);have yZ:Hid (AO zB w5.heap.size (.slice ta r.ks.length tc) (.slice pa r.ps.length pc) (.slice la r.ls.length lc) rs r.ks r.ps r.ls/\∀g∈Bb (.slice ta r.ks.length tc) (.slice pa r.ps.length pc) (.slice la r.ls.length lc) rs,g<G.heap.size):=⟨tN.o.1.below C,tN.o.2⟩
   have yY:Hid (zB.heap[m]?=w5.heap[m]? /\m<w.heap.size):=⟨(C.block m (by have:=vS.o.2;have:=zA.o;omega)).trans vS.o.1,vS.o.2⟩;have yX:Hid (zB.cell? (Ze d 0)=some (Zg v.wd)/\zB.cell? (Ze d 1)=some (.map (some m))):=by have e8:zB.heap[d]?=G.heap[d]?:=C.block d (by have:=HV.o.1 d HV.o.2.1;have:=zA.o;omega);exact⟨(cell_of_block e8 _).trans tJ.o.1,(cell_of_block e8 _).trans tJ.o.2⟩
   clear hcut xL sZ C zI xV tN vS tJ;rcases H with⟨xN,rY⟩|⟨xM,rfl,rfl,rD,hs,hu,vF⟩
   ·have xW:Hid (Hb v e 9 ⟨#[]⟩ ⟨#[]⟩):=.inr ⟨vT.o,.inr ⟨rfl,rfl,r,Hy.o,.inr ⟨tM.o,xN,rfl⟩⟩⟩;clear xN HO HH HV xX yZ yY yX xY tA;obtain⟨W9,zS⟩:∃Y,Y=zB.setCells (w.heap.size+1) 0 (Xy 9):=⟨_,rfl⟩;obtain⟨yR,zC⟩:∃Y,Y=W9.setCell (Ze k 0) (.int .i32 0):=⟨_,rfl⟩;obtain⟨l0,g0,yI,yF⟩:=JI (z:=Zf) (cs:=(Xy 9)) A.o.1 A.o.2.2.1 rfl (by have:=zA.o;omega) zS zC
    have zZ:=Yx (Zn (show((Xx 9):Array Value).all (·.oneCell')=true by kernel_rfl) A.o.2.2.1.there);have xB:Hid (Below lo w yR):=yN.o.trans (yF.below (Zm zU.o yN.o.size) (by have:=zA.o;simp;omega));have HU:=Yx (Zn l0 g0);have A:=Yx yI;have xD:=Yx zS;have yC:=Yx zC;clear zS zC l0 g0 yI yF
    go_wp2_with (refine wpList_store_mid rfl 45 _ _ rfl (w.heap.size+1) 0 (Xx 9) rfl rfl zZ.o.2 (by kernel_rfl) zZ.o.1 ?_);rw[←xD.o];refine leaves_cons (f:=99) (args:= #[Yz k]) (by simp) (by simp[go_sem]) ?_;refine(unlock_deferred Lm ⟨k,0,none⟩ .returning _ HU.o.1 HU.o.2).mono ?_;rintro o u' sC ⟨rfl,rfl,rfl⟩;rw[←yC.o]
    exact⟨_,BN results46 _ _ (w.heap.size+1) (Xy 9) _ rfl (Aa.range A.o) underlying45 rfl (by kernel_rfl),xB.o,.inl ⟨9,⟨#[]⟩,⟨#[]⟩,xW.o,rfl⟩⟩
   have vO:Hid (Jt v e r):=⟨vT.o,Hy.o,tM.o,xM⟩;have xQ:=Yx (Zb hs (Zb hu vF));have rR:Hid (F=(v.tt++[et]).length):=rD;clear hs hu vF rD xM tM vT
   as_aux_lemma=>
   obtain⟨l0,_⟩:=tA.o.1 0 _ rfl;obtain⟨l1,_⟩:=tA.o.1 1 _ rfl;obtain⟨n2,f2⟩:=A.o.2.2.2.2 2 _ rfl;obtain⟨n3,f3⟩:=A.o.2.2.2.2 3 _ rfl;obtain⟨l,yP⟩:∃Y,Y=(zB.setCell (Ze (i.heap.size) 2) (.slice I v.ss.length J)).setCell (Ze (i.heap.size) 3) (.slice N F O):=⟨_,rfl⟩;have yH:Tn [i.heap.size] zB l:=by rw[yP];exact(Tn.set _ _ _ _ (by simp)).trans (Tn.set _ _ _ _ (by simp))
   have sG:l.heap.size=zB.heap.size:=by rw[yP];simp
   have rJ:Aa l i.heap.size [Zg v.wd,Zg v.ak,.slice I v.ss.length J,.slice N F O,Zg v.wd,Zg r.now,Zg r.given,Zg r.ae,.slice ta r.ks.length tc,.slice pa r.ps.length pc,.slice la r.ls.length lc,c0,c1,c2,c3,c4,c5]:=by rw[yP];exact(A.o.2.2.2.2.set 2 _).set 3 _
   have q1:=zA.o;have q2:=yY.o.2;have q3:=xP.o;have n:=Yx (Zb (Aa.same A.o.1 (yH.block _ A.o.1.lt (by simp;omega))) (Zb (Aa.same A.o.2.1 (yH.block _ A.o.2.1.lt (by simp;omega))) (Zb (Aa.same A.o.2.2.1 (yH.block _ A.o.2.2.1.lt (by simp;omega))) (Zb (Aa.same A.o.2.2.2.1 (yH.block _ A.o.2.2.2.1.lt (by simp;omega))) rJ))))
   have yO:Hid (Below lo w l):=yN.o.trans (yH.below (Zm zU.o yN.o.size) (by simp;omega));have vL:Hid (AO l w5.heap.size (.slice ta r.ks.length tc) (.slice pa r.ps.length pc) (.slice la r.ls.length lc) rs r.ks r.ps r.ls):=yZ.o.1.an yH (by simp;omega);have tH:=Yx yZ.o.2
   have zT:Hid (Ao l G.heap.size (.slice I v.ss.length J) v.ss/\Ao l G.heap.size (.slice N F O) (v.tt++[et])/\(∀g,Ak (.slice I v.ss.length J)=some g->Ak (.slice N F O)≠some g)):=⟨xQ.o.1.an yH (fun g hg=>by have:=(xQ.o.1.bj hg).1;simp;omega),xQ.o.2.1.an yH (fun g hg=>by have:=(xQ.o.2.1.bj hg).1;simp;omega),xQ.o.2.2⟩
   have vK:Hid (l.heap[m]?=w5.heap[m]?):=(yH.block m (by omega) (by simp;omega)).trans yY.o.1;have vJ:Hid (l.cell? (Ze d 0)=some (Zg v.wd)/\l.cell? (Ze d 1)=some (.map (some m))):=by have e8:l.heap[d]?=zB.heap[d]?:=yH.block d (by have:=HV.o.1 d HV.o.2.1;omega) (by have:=HV.o.1 d HV.o.2.1;simp;omega);exact⟨(cell_of_block e8 _).trans yX.o.1,(cell_of_block e8 _).trans yX.o.2⟩
   have vM:=Yx yP;clear yP yH rJ q1 q2 q3 A yN yZ xQ yY yX tA;go_upto_region 16 with fail;rw[←vM.o];clear vM l0 l1 n2 f2 n3 f3
   as_aux_lemma=>
   obtain⟨xH,_⟩:=n.o.1 19 _ rfl;obtain⟨d0,d1⟩:=vJ.o;obtain⟨qG,_⟩:=n.o.2.2.2.2 11 _ rfl;obtain⟨qH,_⟩:=n.o.2.2.2.2 12 _ rfl;obtain⟨qI,_⟩:=n.o.2.2.2.2 13 _ rfl;obtain⟨qJ,_⟩:=n.o.2.2.2.2 14 _ rfl;obtain⟨qK,_⟩:=n.o.2.2.2.2 15 _ rfl;obtain⟨qL,_⟩:=n.o.2.2.2.2 16 _ rfl;obtain⟨u8,_⟩:=n.o.2.2.2.1 8 _ rfl;obtain⟨e1,_⟩:=n.o.2.1 1 _ rfl
   have sF:(k<l.heap.size/\d<l.heap.size)/\(i.heap.size<l.heap.size/\cb<l.heap.size)/\w.heap.size<l.heap.size:=by have:=zA.o;have:=xP.o;have:=HV.o.1 d HV.o.2.1;have:=n.o.2.2.2.2.lt;have:=n.o.2.2.2.1.lt;have:=n.o.2.1.lt;have:=n.o.1.lt;exact⟨⟨by omega,by omega⟩,⟨by omega,by omega⟩,by omega⟩
   obtain⟨⟨qB,qC⟩,⟨qD,qE⟩,qF⟩:=sF;have sQ:Hid (w5.heap.size<=G.heap.size/\G.heap.size<=l.heap.size/\i.heap.size<w5.heap.size/\w.heap.size+2<=i.heap.size):=⟨by omega,by omega,by omega,by have:=zA.o;have:=xP.o;omega⟩;clear sG qN z8 qO z6 z5 z4 z2;have yU:Below l.heap.size l (l.drew.alloc (.cells #[.string r.sm,.string e.s] 9)):=((Below.refl _ _).drew).alloc (Zx) _
   obtain⟨hl,tD⟩:∃t,t=e.held r:=⟨_,rfl⟩;have vV:Hid ((if r.sm=⟨#[]⟩then e.s else r.sm)=hl):=by show _=_;rw[tD];exact HO.o r Hy.o
   replace HH:=Yx (HH.o r w5 (l.drew.alloc (.cells #[.string r.sm,.string e.s] 9)) xY.o Hy.o (yO.o.trans (yU.mono (Zm zU.o yO.o.size))) ((yU.block m (by have:=HV.o.1 m HV.o.2.2;have:=zA.o;omega)).trans vK.o));rw[←tD]at HH;obtain⟨xJ,tX⟩:∃t,t=shQ v.ph r.ks v.qs v.ms hl:=⟨_,rfl⟩;rw[←tX]at HH;obtain⟨qn,tW⟩:∃t,t=xJ.length:=⟨_,rfl⟩;rw[←tW]at HH
   have sK:Hid (xJ=shQ v.ph r.ks v.qs v.ms (e.held r)):=by show xJ=_;rw[tX,tD]
   have rQ:Hid (qn=xJ.length):=tW;clear tD tX tW HO vK vJ xY
   go_cut []from 9 to 100 (fun wx=>∃(qa:Zk) (qc:Nat) (ma:Zk) (mc:Nat),Hid (Aa wx i.heap.size [Zg v.wd,Zg v.ak,.slice I v.ss.length J,.slice N F O,Zg v.wd,Zg r.now,Zg r.given,Zg r.ae,.slice ta r.ks.length tc,.slice pa r.ps.length pc,.slice la r.ls.length lc,Zg v.ph,.slice qa qn qc,.slice ma v.ms.length mc,Zg v.ag,Zg v.at_,Zg v.ro]/\Tn [i.heap.size] l wx/\Ao wx l.heap.size (.slice qa qn qc) xJ/\Ao wx l.heap.size (.slice ma v.ms.length mc) v.ms/\∀g,Ak (.slice qa qn qc)=some g->Ak (.slice ma v.ms.length mc)≠some g))
   case first=>
    have zE:Hid (∀X s,((X.cell? (Ze k 19)=some (Yz d)/\X.cell? (Ze d 0)=some (Zg v.wd)/\X.cell? (Ze d 1)=some (.map (some m)))/\X.cell? (Ze cb 8)=some (.string r.sm)/\X.cell? (Ze (w.heap.size) 1)=some (.string e.s))->Zz X s->(s.cell? (Ze k 19)=some (Yz d)/\s.cell? (Ze d 0)=some (Zg v.wd)/\s.cell? (Ze d 1)=some (.map (some m)))/\s.cell? (Ze cb 8)=some (.string r.sm)/\s.cell? (Ze (w.heap.size) 1)=some (.string e.s)):=fun X s B h2=>⟨⟨(h2.cell (World.block_lt_of_cell? X _ B.1.1)).trans B.1.1,(h2.cell (World.block_lt_of_cell? X _ B.1.2.1)).trans B.1.2.1,(h2.cell (World.block_lt_of_cell? X _ B.1.2.2)).trans B.1.2.2⟩,(h2.cell (World.block_lt_of_cell? X _ B.2.1)).trans B.2.1,(h2.cell (World.block_lt_of_cell? X _ B.2.2)).trans B.2.2⟩
    have yE:Hid (∀X s,((X.cell? (Ze k 19)=some (Yz d)/\X.cell? (Ze d 0)=some (Zg v.wd)/\X.cell? (Ze d 1)=some (.map (some m)))/\X.cell? (Ze cb 8)=some (.string r.sm)/\X.cell? (Ze (w.heap.size) 1)=some (.string e.s))->Tn [i.heap.size] X s->(s.cell? (Ze k 19)=some (Yz d)/\s.cell? (Ze d 0)=some (Zg v.wd)/\s.cell? (Ze d 1)=some (.map (some m)))/\s.cell? (Ze cb 8)=some (.string r.sm)/\s.cell? (Ze (w.heap.size) 1)=some (.string e.s)):=fun X s B h2=>by
     have rG:=sQ.o;have q1:=zA.o;have q3:=xP.o;have q4:=HV.o.1 d HV.o.2.1;have e1:=fun j=>cell_of_block (h2.block k (World.block_lt_of_cell? X _ B.1.1) (by simp;omega)) j;have e2:=fun j=>cell_of_block (h2.block d (World.block_lt_of_cell? X _ B.1.2.1) (by simp;omega)) j;have e3:=fun j=>cell_of_block (h2.block cb (World.block_lt_of_cell? X _ B.2.1) (by simp;omega)) j
     have e4:=fun j=>cell_of_block (h2.block w.heap.size (World.block_lt_of_cell? X _ B.2.2) (by simp;omega)) j;exact⟨⟨(e1 _).trans B.1.1,(e2 _).trans B.1.2.1,(e2 _).trans B.1.2.2⟩,(e3 _).trans B.2.1,(e4 _).trans B.2.2⟩
    have zK:Hid (∀zP qa qc ma mc,Below (l.drew.alloc (.cells #[.string r.sm,.string e.s] 9)).heap.size (l.drew.alloc (.cells #[.string r.sm,.string e.s] 9)) zP->Ao zP (l.drew.alloc (.cells #[.string r.sm,.string e.s] 9)).heap.size (.slice qa qn qc) xJ->Ao zP (l.drew.alloc (.cells #[.string r.sm,.string e.s] 9)).heap.size (.slice ma v.ms.length mc) v.ms->(∀g,Ak (.slice qa qn qc)=some g->Ak (.slice ma v.ms.length mc)≠some g)->zP.there i.heap.size 11 6/\Hid (Aa (zP.setCells i.heap.size 11 (Yg v.ph qa qn qc ma v.ms.length mc v.ag v.at_ v.ro)) i.heap.size [Zg v.wd,Zg v.ak,.slice I v.ss.length J,.slice N F O,Zg v.wd,Zg r.now,Zg r.given,Zg r.ae,.slice ta r.ks.length tc,.slice pa r.ps.length pc,.slice la r.ls.length lc,Zg v.ph,.slice qa qn qc,.slice ma v.ms.length mc,Zg v.ag,Zg v.at_,Zg v.ro]/\Tn [i.heap.size] l (zP.setCells i.heap.size 11 (Yg v.ph qa qn qc ma v.ms.length mc v.ag v.at_ v.ro))/\Ao (zP.setCells i.heap.size 11 (Yg v.ph qa qn qc ma v.ms.length mc v.ag v.at_ v.ro)) l.heap.size (.slice qa qn qc) xJ/\Ao (zP.setCells i.heap.size 11 (Yg v.ph qa qn qc ma v.ms.length mc v.ag v.at_ v.ro)) l.heap.size (.slice ma v.ms.length mc) v.ms/\∀g,Ak (.slice qa qn qc)=some g->Ak (.slice ma v.ms.length mc)≠some g)):=fun zP qa qc ma mc zN hq hm yK=>by
     have sS:=yU.trans (zN.mono yU.size);have rK:=Aa.below n.o.2.2.2.2 sS;have yB:=AP i.heap.size (Yg v.ph qa qn qc ma v.ms.length mc v.ag v.at_ v.ro) 11 zP;have hz:=yU.size
     exact⟨Aa.dz [Zg v.wd,Zg v.ak,.slice I v.ss.length J,.slice N F O,Zg v.wd,Zg r.now,Zg r.given,Zg r.ae,.slice ta r.ks.length tc,.slice pa r.ps.length pc,.slice la r.ls.length lc] [c0,c1,c2,c3,c4,c5] [] rK,Aa.dv (Yg v.ph qa qn qc ma v.ms.length mc v.ag v.at_ v.ro) [Zg v.wd,Zg v.ak,.slice I v.ss.length J,.slice N F O,Zg v.wd,Zg r.now,Zg r.given,Zg r.ae,.slice ta r.ks.length tc,.slice pa r.ps.length pc,.slice la r.ls.length lc] [c0,c1,c2,c3,c4,c5] [] zP rK rfl,((Tn.of (V:=[]) sS).mono (by simp)).trans yB,(hq.mono hz).an yB (fun g hg=>by have:=(hq.bj hg).1;simp;omega),(hm.mono hz).an yB (fun g hg=>by have:=(hm.bj hg).1;simp;omega),yK⟩
    refine wp_region_noPanic ?_;refine wp_region_held_drew (S:=fun X=>(X.cell? (Ze k 19)=some (Yz d)/\X.cell? (Ze d 0)=some (Zg v.wd)/\X.cell? (Ze d 1)=some (.map (some m)))/\X.cell? (Ze cb 8)=some (.string r.sm)/\X.cell? (Ze (w.heap.size) 1)=some (.string e.s)) (by kernel_rfl) (show _/\_ from⟨⟨xH,d0,d1⟩,u8,e1⟩) (fun E=> ?_)
    refine Bq 0 ⟨some 78,.move (.tmp 0),92, "l7_vault.go:243",#[],none⟩ (Yz k) (by exact E) ?_;try simp only[Act.put,Az]
    refine Bq 1 ⟨some 79,.nilCheck (.tmp 78),0, "l7_vault.go:243",#[Al 0],none⟩ (Yz k) (by exact E) ?_;try simp only[Act.put,Az]
    refine Bq 2 ⟨some 80,.fieldAddr 166 (.tmp 79) 2,0, "l7_vault.go:243",#[Al 1],none⟩ (Yy k 19) (by exact E) ?_;try simp only[Act.put,Az]
    refine Et 3 ⟨some 81,.load 141 (.tmp 80),141, "l7_vault.go:243",#[Al 2],none⟩ (Yz d) (by exact Or.inl ⟨by rfl,fun X hX=>by have B:=hX.1.1;go_simp⟩) (by exact E) ?_;try simp only[Act.put,Az]
    refine Bq 4 ⟨some 82,.nilCheck (.tmp 81),0, "l7_vault.go:243",#[Al 3],none⟩ (Yz d) (by exact E) ?_;try simp only[Act.put,Az]
    refine Bq 5 ⟨some 83,.fieldAddr 157 (.tmp 82) 0,0, "l7_vault.go:243",#[Al 4],none⟩ (Yz d) (by exact E) ?_;try simp only[Act.put,Az]
    refine Et 6 ⟨some 84,.load 154 (.tmp 83),154, "l7_vault.go:243",#[Al 5],none⟩ (.agg #[Zg v.wd,.map (some m)]) (by exact yieldsIf_load_mid (by rfl) 154 _ rfl (d) 0 rfl [Zg v.wd,.map (some m)] _ (fun X h=>YD h.1.2.1 h.1.2.2) underlying154 rfl (by kernel_rfl)) (by exact E) ?_;try simp only[Act.put,Az]
    refine Bq 7 ⟨some 85,.fieldAddr 43 (.tmp 6) 4,0, "l7_vault.go:243",#[],none⟩ (Yy i.heap.size 11) (by exact E) ?_;try simp only[Act.put,Az]
    refine Bq 9 ⟨some 87,.fieldAddr 82 (.tmp 5) 2,0, "l7_vault.go:243",#[],none⟩ (Yy cb 8) (by exact E) ?_;try simp only[Act.put,Az]
    refine Et 10 ⟨some 88,.load 9 (.tmp 87),9, "l7_vault.go:243",#[Al 9],none⟩ (.string r.sm) (by exact Or.inl ⟨by rfl,fun X hX=>by have B:=hX.2.1;go_simp⟩) (by exact E) ?_;try simp only[Act.put,Az]
    refine Bq 11 ⟨some 89,.fieldAddr 60 (.tmp 3) 1,0, "l7_vault.go:243",#[],none⟩ (Yy w.heap.size 1) (by exact E) ?_;try simp only[Act.put,Az]
    refine Et 12 ⟨some 90,.load 9 (.tmp 89),9, "l7_vault.go:243",#[Al 11],none⟩ (.string e.s) (by exact Or.inl ⟨by rfl,fun X hX=>by have B:=hX.2.2;go_simp⟩) (by exact E) ?_;try simp only[Act.put,Az]
    refine wpAnyH_ready (rs:=[8,13]) (by kernel_rfl) (by simp) ?_;refine AllReadyH.cons (o:=⟨some 86,.load 41 (.tmp 85),41, "l7_vault.go:243",#[Al 7],none⟩) rfl (fun K a=> ?_) (AllReadyH.cons (o:=⟨some 91,.buildSlice 22 2 #[(0,.tmp 88),(1,.tmp 90)],22, "l7_vault.go:243",#[Al 10,Al 12],none⟩) rfl (fun K a=> ?_) AllReadyH.nil)
    ·rw[if_pos (by rfl)];refine wp_load_mid 41 _ rfl i.heap.size 11 rfl [c0,c1,c2,c3,c4,c5] _ (Aa.fp [Zg v.wd,Zg v.ak,.slice I v.ss.length J,.slice N F O,Zg v.wd,Zg r.now,Zg r.given,Zg r.ae,.slice ta r.ks.length tc,.slice pa r.ps.length pc,.slice la r.ls.length lc] [c0,c1,c2,c3,c4,c5] [] n.o.2.2.2.2) underlying41 rfl (by kernel_rfl) ?_;refine a.out _ _ E (fun yA=> ?_);clear a K
     try simp only[Act.put,Az]
     refine Br 13 ⟨some 91,.buildSlice 22 2 #[(0,.tmp 88),(1,.tmp 90)],22, "l7_vault.go:243",#[Al 10,Al 12],none⟩ (fun K a=> ?_);go_simp;refine a.out _ _ (zE.o _ _ yA (Zy)) (fun zJ=> ?_);clear a K;try simp only[Act.put,Az]
     refine Br 14 ⟨some 92,.call ⟨.value (.func 106),#[.tmp 91],#[22]⟩,9, "l7_vault.go:243",#[Al 13],none⟩ (fun K a=> ?_);go_simp;refine(OD l.heap.size r.sm e.s _ (Aa.new l.drew [.string r.sm,.string e.s] 9 0 _ rfl).1 (Aa.new l.drew [.string r.sm,.string e.s] 9 1 _ rfl).1).mono ?_;rintro o rI ⟨rfl,rfl⟩;rw[vV.o];try go_simp
     refine a.out _ _ zJ (fun zG=> ?_);clear a K;try simp only[Act.put,Az]
     refine Br 15 ⟨some 93,.call ⟨.value (.func 105),#[.tmp 84,.tmp 86,.tmp 92],#[154,41,9]⟩,41, "l7_vault.go:243",#[Al 6,Al 8,Al 14,⟨14,.chain⟩],none⟩ (fun K a=> ?_);go_simp;refine Calls.mono HH.o ?_;rintro o zP ⟨zN,qa,qc,ma,mc,rfl,hq,hm,yK⟩;try go_simp
     refine a.out _ _ (zE.o _ _ zG zN) (fun zV=> ?_);clear a K;try simp only[Act.put,Az]
     obtain⟨vG,yQ⟩:=zK.o zP qa qc ma mc zN hq hm yK;have zY:((Yk v.ph qa qn qc ma v.ms.length mc v.ag v.at_ v.ro):Array Value).all (·.oneCell')=true:=by simp[Value.oneCell']
     refine Bq 16 ⟨some 94,.fieldAddr 43 (.tmp 6) 4,0, "l7_vault.go:243",#[Ag 0,Ag 1,Ag 2,Ag 3,Ag 4,Ag 5,Ag 6,Ag 7,Ag 8,Ag 9,Ag 10,Ag 11,Ag 12,Ag 13,Ag 14,Ag 15],none⟩ (Yy i.heap.size 11) (by exact zV) ?_;try simp only[Act.put,Az]
     refine Br 17 ⟨none,.store 41 (.tmp 94) (.tmp 93),0, "l7_vault.go:243",#[Al 16,Al 15,⟨15,.chain⟩,Ag 0,Ag 1,Ag 2,Ag 3,Ag 4,Ag 5,Ag 6,Ag 7,Ag 8,Ag 9,Ag 10,Ag 11,Ag 12,Ag 13,Ag 14,Ag 15],none⟩ (fun K a=> ?_);rw[if_pos (by rfl)];refine wp_store_mid 41 _ _ rfl i.heap.size 11 (Yk v.ph qa qn qc ma v.ms.length mc v.ag v.at_ v.ro) rfl rfl vG (by kernel_rfl) zY ?_
     refine a.out _ _ (yE.o _ _ zV (AP _ _ _ _)) (fun sU=> ?_);clear a K;try simp only[Act.put]
     refine wpAnyH_done (by kernel_rfl) ?_ _;refine NoPanic.normal ?_;go_wp2_with fail;go_meet;exact⟨qa,qc,ma,mc,yQ⟩
    ·go_simp;refine a.out _ _ (zE.o _ _ E (Zy)) (fun yA=> ?_);clear a K;try simp only[Act.put,Az]
     refine wpAnyH_ready (rs:=[8,14]) (by kernel_rfl) (by simp) ?_;refine AllReadyH.cons (o:=⟨some 86,.load 41 (.tmp 85),41, "l7_vault.go:243",#[Al 7],none⟩) rfl (fun K a=> ?_) (AllReadyH.cons (o:=⟨some 92,.call ⟨.value (.func 106),#[.tmp 91],#[22]⟩,9, "l7_vault.go:243",#[Al 13],none⟩) rfl (fun K a=> ?_) AllReadyH.nil)
     ·rw[if_pos (by rfl)];refine wp_load_mid 41 _ rfl i.heap.size 11 rfl [c0,c1,c2,c3,c4,c5] _ (Aa.fp [Zg v.wd,Zg v.ak,.slice I v.ss.length J,.slice N F O,Zg v.wd,Zg r.now,Zg r.given,Zg r.ae,.slice ta r.ks.length tc,.slice pa r.ps.length pc,.slice la r.ls.length lc] [c0,c1,c2,c3,c4,c5] [] (Aa.below n.o.2.2.2.2 yU)) underlying41 rfl (by kernel_rfl) ?_;refine a.out _ _ yA (fun zJ=> ?_)
      clear a K;try simp only[Act.put,Az]
      refine Br 14 ⟨some 92,.call ⟨.value (.func 106),#[.tmp 91],#[22]⟩,9, "l7_vault.go:243",#[Al 13],none⟩ (fun K a=> ?_);go_simp;refine(OD l.heap.size r.sm e.s _ (Aa.new l.drew [.string r.sm,.string e.s] 9 0 _ rfl).1 (Aa.new l.drew [.string r.sm,.string e.s] 9 1 _ rfl).1).mono ?_;rintro o rI ⟨rfl,rfl⟩;rw[vV.o];try go_simp
      refine a.out _ _ zJ (fun zG=> ?_);clear a K;try simp only[Act.put,Az]
      refine Br 15 ⟨some 93,.call ⟨.value (.func 105),#[.tmp 84,.tmp 86,.tmp 92],#[154,41,9]⟩,41, "l7_vault.go:243",#[Al 6,Al 8,Al 14,⟨14,.chain⟩],none⟩ (fun K a=> ?_);go_simp;refine Calls.mono HH.o ?_;rintro o zP ⟨zN,qa,qc,ma,mc,rfl,hq,hm,yK⟩;try go_simp
      refine a.out _ _ (zE.o _ _ zG zN) (fun zV=> ?_);clear a K;try simp only[Act.put,Az]
      obtain⟨vG,yQ⟩:=zK.o zP qa qc ma mc zN hq hm yK;have zY:((Yk v.ph qa qn qc ma v.ms.length mc v.ag v.at_ v.ro):Array Value).all (·.oneCell')=true:=by simp[Value.oneCell']
      refine Bq 16 ⟨some 94,.fieldAddr 43 (.tmp 6) 4,0, "l7_vault.go:243",#[Ag 0,Ag 1,Ag 2,Ag 3,Ag 4,Ag 5,Ag 6,Ag 7,Ag 8,Ag 9,Ag 10,Ag 11,Ag 12,Ag 13,Ag 14,Ag 15],none⟩ (Yy i.heap.size 11) (by exact zV) ?_;try simp only[Act.put,Az]
      refine Br 17 ⟨none,.store 41 (.tmp 94) (.tmp 93),0, "l7_vault.go:243",#[Al 16,Al 15,⟨15,.chain⟩,Ag 0,Ag 1,Ag 2,Ag 3,Ag 4,Ag 5,Ag 6,Ag 7,Ag 8,Ag 9,Ag 10,Ag 11,Ag 12,Ag 13,Ag 14,Ag 15],none⟩ (fun K a=> ?_);rw[if_pos (by rfl)];refine wp_store_mid 41 _ _ rfl i.heap.size 11 (Yk v.ph qa qn qc ma v.ms.length mc v.ag v.at_ v.ro) rfl rfl vG (by kernel_rfl) zY ?_
      refine a.out _ _ (yE.o _ _ zV (AP _ _ _ _)) (fun sU=> ?_);clear a K;try simp only[Act.put]
      refine wpAnyH_done (by kernel_rfl) ?_ _;refine NoPanic.normal ?_;go_wp2_with fail;go_meet;exact⟨qa,qc,ma,mc,yQ⟩
     ·go_simp;refine(OD l.heap.size r.sm e.s _ (Aa.new l.drew [.string r.sm,.string e.s] 9 0 _ rfl).1 (Aa.new l.drew [.string r.sm,.string e.s] 9 1 _ rfl).1).mono ?_;rintro o rI ⟨rfl,rfl⟩;rw[vV.o];try go_simp
      refine a.out _ _ yA (fun zJ=> ?_);clear a K;try simp only[Act.put,Az]
      refine Br 8 ⟨some 86,.load 41 (.tmp 85),41, "l7_vault.go:243",#[Al 7],none⟩ (fun K a=> ?_);rw[if_pos (by rfl)]
      refine wp_load_mid 41 _ rfl i.heap.size 11 rfl [c0,c1,c2,c3,c4,c5] _ (Aa.fp [Zg v.wd,Zg v.ak,.slice I v.ss.length J,.slice N F O,Zg v.wd,Zg r.now,Zg r.given,Zg r.ae,.slice ta r.ks.length tc,.slice pa r.ps.length pc,.slice la r.ls.length lc] [c0,c1,c2,c3,c4,c5] [] (Aa.below n.o.2.2.2.2 yU)) underlying41 rfl (by kernel_rfl) ?_;refine a.out _ _ zJ (fun zG=> ?_);clear a K
      try simp only[Act.put,Az]
      refine Br 15 ⟨some 93,.call ⟨.value (.func 105),#[.tmp 84,.tmp 86,.tmp 92],#[154,41,9]⟩,41, "l7_vault.go:243",#[Al 6,Al 8,Al 14,⟨14,.chain⟩],none⟩ (fun K a=> ?_);go_simp;refine Calls.mono HH.o ?_;rintro o zP ⟨zN,qa,qc,ma,mc,rfl,hq,hm,yK⟩;try go_simp
      refine a.out _ _ (zE.o _ _ zG zN) (fun zV=> ?_);clear a K;try simp only[Act.put,Az]
      obtain⟨vG,yQ⟩:=zK.o zP qa qc ma mc zN hq hm yK;have zY:((Yk v.ph qa qn qc ma v.ms.length mc v.ag v.at_ v.ro):Array Value).all (·.oneCell')=true:=by simp[Value.oneCell']
      refine Bq 16 ⟨some 94,.fieldAddr 43 (.tmp 6) 4,0, "l7_vault.go:243",#[Ag 0,Ag 1,Ag 2,Ag 3,Ag 4,Ag 5,Ag 6,Ag 7,Ag 8,Ag 9,Ag 10,Ag 11,Ag 12,Ag 13,Ag 14,Ag 15],none⟩ (Yy i.heap.size 11) (by exact zV) ?_;try simp only[Act.put,Az]
      refine Br 17 ⟨none,.store 41 (.tmp 94) (.tmp 93),0, "l7_vault.go:243",#[Al 16,Al 15,⟨15,.chain⟩,Ag 0,Ag 1,Ag 2,Ag 3,Ag 4,Ag 5,Ag 6,Ag 7,Ag 8,Ag 9,Ag 10,Ag 11,Ag 12,Ag 13,Ag 14,Ag 15],none⟩ (fun K a=> ?_);rw[if_pos (by rfl)];refine wp_store_mid 41 _ _ rfl i.heap.size 11 (Yk v.ph qa qn qc ma v.ms.length mc v.ag v.at_ v.ro) rfl rfl vG (by kernel_rfl) zY ?_
      refine a.out _ _ (yE.o _ _ zV (AP _ _ _ _)) (fun sU=> ?_);clear a K;try simp only[Act.put]
      refine wpAnyH_done (by kernel_rfl) ?_ _;refine NoPanic.normal ?_;go_wp2_with fail;go_meet;exact⟨qa,qc,ma,mc,yQ⟩
   case rest=>
   revert wc;intro yM hcut;obtain⟨qa,qc,ma,mc,hcut⟩:=hcut;clear xH d0 d1 qG qH qI qJ qK qL u8 e1 yU HH vV;obtain⟨rL,yB,hq,hm,yK⟩:=hcut.o;have q1:=zA.o;have qT:=yB.size;have rG:=sQ.o;have q3:=xP.o;have rX:i.heap.size<w5.heap.size:=by omega
   have yD:=Yx (Zb (Aa.same n.o.1 (yB.block _ n.o.1.lt (by simp;omega))) (Zb (Aa.same n.o.2.2.1 (yB.block _ n.o.2.2.1.lt (by simp;omega))) (Zb (Aa.same n.o.2.2.2.1 (yB.block _ n.o.2.2.2.1.lt (by simp;omega))) rL)));have vI:Hid (Below lo w yM):=yO.o.trans (yB.below (Zm zU.o yO.o.size) (by simp;omega))
   have xS:Hid (AL yM w5.heap.size (.slice I v.ss.length J) (.slice N F O) (.slice ta r.ks.length tc) (.slice pa r.ps.length pc) (.slice la r.ls.length lc) (.slice qa qn qc) (.slice ma v.ms.length mc) rs (doV v e r)):=by
    have E:=vL.o.an yB (by simp;omega);have B:=zT.o.1.an yB (fun g hg=>by have:=(zT.o.1.bj hg).1;simp;omega);have h2:=zT.o.2.1.an yB (fun g hg=>by have:=(zT.o.2.1.bj hg).1;simp;omega)
    refine AL.apart (B.mono (by omega)) (by have h:=h2.mono (base':=w5.heap.size) (by omega);rw[sI.o]at h;exact h) zT.o.2.2 E (by have h:=hq.mono (base':=w5.heap.size) (by omega);rw[sK.o]at h;exact h) (hm.mono (by omega)) yK (fun g hg vD=> ?_) (fun g hg vD=> ?_) (fun g g' hg rZ he=> ?_)
    ·have:=tH.o g vD;rcases hg with hg|hg
     ·have:=(B.bj hg).1;omega
     ·have:=(h2.bj hg).1;omega
    ·have:=tH.o g vD;rcases hg with hg|hg
     ·have:=(hq.bj hg).1;omega
     ·have:=(hm.bj hg).1;omega
    ·have a1:g<l.heap.size:=by
      rcases hg with hg|hg
      ·exact(zT.o.1.bj hg).2
      ·exact(zT.o.2.1.bj hg).2
     have a2:l.heap.size<=g':=by
      rcases rZ with hg|hg
      ·exact(hq.bj hg).1
      ·exact(hm.bj hg).1
     omega
   have tL:Hid (w.heap.size+2<w5.heap.size/\lo<=w5.heap.size):=⟨by omega,by omega⟩;obtain⟨u8,_⟩:=yD.o.2.2.1 8 _ rfl;obtain⟨u9,_⟩:=yD.o.2.2.1 9 _ rfl;clear hcut rL yB hq hm yK q1 q3 rG rX qB qC qD qE qF n yO vL tH zT sK rQ sI rR
   obtain⟨vs,vH⟩:∃t:Zj,t=[Zg v.wd,Zg v.ak,.slice I v.ss.length J,.slice N F O,Zg v.wd,Zg r.now,Zg r.given,Zg r.ae,.slice ta r.ks.length tc,.slice pa r.ps.length pc,.slice la r.ls.length lc,Zg v.ph,.slice qa qn qc,.slice ma v.ms.length mc,Zg v.ag,Zg v.at_,Zg v.ro]:=⟨_,rfl⟩;have rT:Hid (Aa yM i.heap.size vs):=by show Aa yM i.heap.size vs;rw[vH];exact yD.o.2.2.2
   have tE:vs.length=17:=by rw[vH];rfl
   have rE:∀u∈vs,u.oneCell'=true:=by
    have h:vs.all (·.oneCell')=true:=by rw[vH];kernel_rfl
    exact fun u hu=>List.all_eq_true.1 h u hu
   obtain⟨D,hD⟩:∃t:Zj,t=Zg 0::(vs++[.string r.sm,Zg r.le,Zd,Zd]):=⟨_,rfl⟩;have tC:D.length=22:=by rw[hD];simp[tE]
   have sT:∀u∈D,u.oneCell'=true:=by
    intro u hu;rw[hD]at hu;simp only[List.mem_cons,List.mem_append,List.not_mem_nil,or_false]at hu;rcases hu with rfl|hu|rfl|rfl|rfl|rfl
    ·rfl
    ·exact rE u hu
    ·rfl
    ·rfl
    ·rfl
    ·rfl
   have rN:Hid (prog.built 45 [(1,.agg vs.toArray),(2,.string r.sm),(3,Zg r.le)]=some D.toArray):=by show _=some D.toArray;rw[hD];exact My tE _ _
   have rP:Hid (vs.length=17):=tE;have zK:Hid (D=JZ (dyes v e r) (.slice I v.ss.length J) (.slice N F O) (.slice ta r.ks.length tc) (.slice pa r.ps.length pc) (.slice la r.ls.length lc) (.slice qa qn qc) (.slice ma v.ms.length mc)):=by show D=_;rw[hD,vH];have h:=xX.o;unfold JZ BS dyes doV;simp only[List.cons_append,List.nil_append,←h]
   obtain⟨W9,zS⟩:∃Y,Y=yM.setCells (w.heap.size+1) 0 D.toArray.toList:=⟨_,rfl⟩;obtain⟨yR,zC⟩:∃Y,Y=W9.setCell (Ze k 0) (.int .i32 0):=⟨_,rfl⟩;obtain⟨l0,g0,yI,yF⟩:=JI (z:=Zf) (cs:=D) yD.o.1 yD.o.2.1 (by rw[tC];rfl) (by have:=zA.o;omega) zS zC;have zZ:Hid (yM.there (w.heap.size+1) 0 D.toArray.size/\D.length=22/\∀u∈D,u.oneCell'=true):=by refine⟨?_,tC,sT⟩;rw[show D.toArray.size=22 from by rw[List.size_toArray];exact tC];exact yD.o.2.1.there
   have xB:Hid (Below lo w yR):=vI.o.trans (yF.below (Zm zU.o vI.o.size) (by have:=zA.o;simp;omega))
   have sL:Hid (AL yR lo (.slice I v.ss.length J) (.slice N F O) (.slice ta r.ks.length tc) (.slice pa r.ps.length pc) (.slice la r.ls.length lc) (.slice qa qn qc) (.slice ma v.ms.length mc) rs (doV v e r)):=(xS.o.stays yF (fun b hb vD=>by have:=xS.o.lo b vD;have:=tL.o;have:=zA.o;simp at hb;omega)).mono tL.o.2
   have sE:Hid (∃r,Jt v e r/\∃S U T P L Q M,Ending.returned (.agg D.toArray)=.returned (.agg (JZ (dyes v e r) S U T P L Q M).toArray)/\∃rs,AL yR lo S U T P L Q M rs (doV v e r)):=⟨r,vO.o,_,_,_,_,_,_,_,by rw[zK.o],rs,sL.o⟩;have HU:=Yx (Zn l0 g0);have A:=Yx yI;have xD:=Yx zS;have yC:=Yx zC;clear zS zC l0 g0 yI yF vH tE rE hD tC sT yD xS zK sL vO xX tL;go_wp2_with (first
    |refine wpList_load_mid rfl 43 _ rfl i.heap.size 0 rfl vs _ rT.o.range underlying43 rfl (by rw[rP.o];kernel_rfl) ?_
    |refine Gm rfl 45 _ rfl [(1,.agg vs.toArray),(2,.string r.sm),(3,Zg r.le)] (by kernel_rfl) D.toArray rN.o ?_
    |refine wpList_store_mid rfl 45 _ _ rfl (w.heap.size+1) 0 D.toArray rfl rfl zZ.o.1 (by rw[List.size_toArray,zZ.o.2.1];kernel_rfl) (all_oneCell_toArray zZ.o.2.2) ?_)
   rw[←xD.o];refine leaves_cons (f:=99) (args:= #[Yz k]) (by simp) (by simp[go_sem]) ?_;refine(unlock_deferred Lm ⟨k,0,none⟩ .returning _ HU.o.1 HU.o.2).mono ?_;rintro o u' sC ⟨rfl,rfl,rfl⟩;rw[←yC.o];exact⟨_,BN results46 _ _ (w.heap.size+1) D _ rfl (Aa.range A.o) underlying45 rfl (by rw[zZ.o.2.1];kernel_rfl),xB.o,.inr sE.o⟩
end
end Go.Proofs.YtlhhpofjkgmbeaaGreatDoor
