import Derived.Test.YthkmpihfhkmaoaaGreatDoorV09
import Derived.Test.YthkmpihfhkmaoaaGreatDoorV20
namespace Go.Proofs.YthkmpihfhkmaoaaGreatDoor
open Go.ChangeShapes Go.WideShapes Go.ChangeAt Go.RowKit
theorem SAns.turn {w w':World} {base:Nat} {T P L:Value} {rs:List Value} {ks:List Kd} {ps:List Pd} {ls:List Ld} (h:SAns w base T P L rs ks ps ls) {V:List Nat} (ht:Tn V w w') (hV:∀b∈V,b<base):SAns w' base T P L rs ks ps ls:=by
 have hs:∀{e:TypeId} {size:Nat} {v:Value} {n:Nat} {xs:List Value},w.ownsRow base e size v n xs->w'.ownsRow base e size v n xs:=fun ho=>own_same ho (fun g hg=>ht.block g (own_lt ho hg).2 (fun e=>by have:=hV g e;have:=(own_lt ho hg).1;omega));exact⟨h.len,hs h.things,fun i k r hk hr=>hs (h.refs i k r hk hr),hs h.pins,hs h.leases,h.nd⟩
theorem SAns.mono {w:World} {base base':Nat} {T P L:Value} {rs:List Value} {ks:List Kd} {ps:List Pd} {ls:List Ld} (h:SAns w base T P L rs ks ps ls) (hb:base'<=base):SAns w base' T P L rs ks ps ls:=
 ⟨h.len,h.things.mono hb,fun i k r hk hr=>(h.refs i k r hk hr).mono hb,h.pins.mono hb,h.leases.mono hb,h.nd⟩
theorem SAns.lo {w:World} {base:Nat} {T P L:Value} {rs:List Value} {ks:List Kd} {ps:List Pd} {ls:List Ld} (h:SAns w base T P L rs ks ps ls):∀g∈blks T P L rs,base<=g:=by
 intro g hg;unfold blks at hg;simp only[List.mem_append,Option.mem_toList,List.mem_filterMap] at hg;rcases hg with hg|hg|hg|⟨r,hr,hg⟩
 ·exact(own_lt h.things hg).1
 ·exact(own_lt h.pins hg).1
 ·exact(own_lt h.leases hg).1
 ·obtain⟨i,hi⟩:=List.getElem?_of_mem hr
  have hl:=(List.getElem?_eq_some_iff.1 hi).1;rw[h.len] at hl;exact(own_lt (h.refs i _ r (List.getElem?_eq_getElem hl) hi) hg).1
end Go.Proofs.YthkmpihfhkmaoaaGreatDoor
namespace Go.Proofs.YthkmpihfhkmaoaaGreatDoor
open Go.ChangeShapes Go.WideShapes Go.ChangeAt Go.RowKit
def IApp (wd now given births:Int) (ks:List Kd) (ps:List Pd) (ls:List Ld) (kd:Int) (s nm:ByteArray) (num:Int) (text:ByteArray) (refs:List ByteArray) (w:World) (e:Ending) (w':World):Prop:=
 Below w.heap.size w w'/\(
  (¬(StateOk wd now given births ks ps ls/\okE kd s nm num text refs wd=true)/\e=.returned (.agg (refC 1 ⟨#[]⟩ ⟨#[]⟩).toArray))∨
  ((StateOk wd now given births ks ps ls/\okE kd s nm num text refs wd=true)/\(
    (∃c a b,ANo wd now given births ks ps ls kd s nm num text refs c a b/\e=.returned (.agg (refC c a b).toArray))∨
    (∃r T P L rs,AYes wd now given births ks ps ls kd s nm num text refs r/\e=.returned (.agg #[.int .i64 0,.int .i64 wd,.int .i64 r.now,.int .i64 r.given,.int .i64 r.births,T,P,L,.string r.sm,.int .i64 r.le,.string ⟨#[]⟩,.string ⟨#[]⟩])/\SAns w' w.heap.size T P L rs r.ks r.ps r.ls))))
theorem refC_code (c:Int) (a b:ByteArray):(refC c a b).toArray= #[.int .i64 c,.int .i64 0,.int .i64 0,.int .i64 0,.int .i64 0,.slice none 0 0,.slice none 0 0,.slice none 0 0,.string ⟨#[]⟩,.int .i64 0,.string a,.string b]:=rfl
theorem ANo.code {wd now given births:Int} {ks:List Kd} {ps:List Pd} {ls:List Ld} {kd:Int} {s nm:ByteArray} {num:Int} {text:ByteArray} {refs:List ByteArray} {c:Int} {a b:ByteArray} (h:ANo wd now given births ks ps ls kd s nm num text refs c a b):2<=c/\c<=6:=by
 rcases h with⟨_,⟨_,rfl,_⟩|⟨_,⟨_,_,_,_,rfl,_⟩|⟨_,_,rfl,_⟩|⟨_,_,rfl,_⟩⟩⟩|⟨_,_,⟨_,⟨_,rfl⟩|⟨_,_,_,rfl⟩⟩|⟨_,_,rfl⟩|⟨_,⟨_,rfl⟩|⟨_,_,rfl⟩⟩|⟨_,_,rfl⟩|⟨_,_,rfl⟩|⟨_,⟨_,rfl⟩|⟨_,_,rfl⟩⟩⟩<;>omega
set_option maxRecDepth 20000 in
set_option maxHeartbeats 8000000 in
theorem iApply_any (wd now given births:Int) (a p l:Option Addr) (ac pc lc:Nat) (ks:List Kd) (ps:List Pd) (ls:List Ld) (kd:Int) (s nm:ByteArray) (num:Int) (text:ByteArray) (refs:List ByteArray) (ra:Option Addr) (rc:Nat) (w:World) (hrow:SRows w w.heap.size a p l ks ps ls) (hk:KMem ks) (hp:PMem ps) (hl:LMem ls) (hf:SFit ks ps ls) (hbw:∀k∈ks,(Lit.int .i64 k.born).wf=true) (hT:Tab w) (hr:SRow w w.heap.size ra refs) (hrl:refs.length<=1048576) (htl:text.size<=maxLen) (hnl:nm.size<=maxLen):
 Calls Tryz.prog 11 #[.agg #[.int .i64 wd,.int .i64 now,.int .i64 given,.int .i64 births,.slice a ks.length ac,.slice p ps.length pc,.slice l ls.length lc],.agg #[.int .i64 kd,.string s,.string nm,.int .i64 num,.string text,.slice ra refs.length rc]] w (IApp wd now given births ks ps ls kd s nm num text refs w):=by
 obtain⟨W,hW⟩:∃W,W=((w.alloc (.cells #[.int .i64 wd,.int .i64 now,.int .i64 given,.int .i64 births,.slice a ks.length ac,.slice p ps.length pc,.slice l ls.length lc] 38)).alloc (.cells #[.int .i64 kd,.string s,.string nm,.int .i64 num,.string text,.slice ra refs.length rc] 45)).alloc (.cells #[.int .i64 0,.int .i64 0,.int .i64 0,.int .i64 0,.int .i64 0,.slice none 0 0,.slice none 0 0,.slice none 0 0,.string ⟨#[]⟩,.int .i64 0,.string ⟨#[]⟩,.string ⟨#[]⟩] 40):=⟨_,rfl⟩
 have bW:Below w.heap.size w W:=by rw[hW];exact(((Below.refl _ _).alloc (Nat.le_refl _) _).alloc (by simp) _).alloc (by simp;omega) _
 have hzW:W.heap.size=w.heap.size+3:=by rw[hW];simp
 have x0:CellsAt W w.heap.size [.int .i64 wd,.int .i64 now,.int .i64 given,.int .i64 births,.slice a ks.length ac,.slice p ps.length pc,.slice l ls.length lc]:=by
  rw[hW];exact CellsAt.below (CellsAt.new w _ 38) (((Below.refl _ _).alloc (Nat.le_refl _) _).alloc (by simp) _)
 have xe:CellsAt W (w.heap.size+1) [.int .i64 kd,.string s,.string nm,.int .i64 num,.string text,.slice ra refs.length rc]:=by
  have h1:=CellsAt.new (w.alloc (.cells #[.int .i64 wd,.int .i64 now,.int .i64 given,.int .i64 births,.slice a ks.length ac,.slice p ps.length pc,.slice l ls.length lc] 38)) [.int .i64 kd,.string s,.string nm,.int .i64 num,.string text,.slice ra refs.length rc] 45;rw[World.size_alloc] at h1;rw[hW];exact CellsAt.below h1 ((Below.refl _ _).alloc (Nat.le_refl _) _)
 have x1:CellsAt W (w.heap.size+2) z12:=by
  have h1:=CellsAt.new ((w.alloc (.cells #[.int .i64 wd,.int .i64 now,.int .i64 given,.int .i64 births,.slice a ks.length ac,.slice p ps.length pc,.slice l ls.length lc] 38)).alloc (.cells #[.int .i64 kd,.string s,.string nm,.int .i64 num,.string text,.slice ra refs.length rc] 45)) z12 40;rw[World.size_alloc,World.size_alloc] at h1;rw[hW];exact h1
 have HX:Hid (∀X,Below W.heap.size W X->CellsAt X w.heap.size [.int .i64 wd,.int .i64 now,.int .i64 given,.int .i64 births,.slice a ks.length ac,.slice p ps.length pc,.slice l ls.length lc]/\CellsAt X (w.heap.size+1) [.int .i64 kd,.string s,.string nm,.int .i64 num,.string text,.slice ra refs.length rc]/\CellsAt X (w.heap.size+2) z12/\Below w.heap.size w X/\SRows X X.heap.size a p l ks ps ls/\SRow X w.heap.size ra refs):=fun X hX=>by
  have hb:Below w.heap.size w X:=bW.trans (hX.mono bW.size);exact⟨CellsAt.below x0 hX,CellsAt.below xe hX,CellsAt.below (v:=.int .i64 0) x1 hX,hb,hrow.below' hb,SRow.below hr hb⟩
 have HV:Hid _:=iValidState_any wd now given births a p l ac pc lc ks ps ls W (hrow.below' bW) hk hp hl hf hbw;have HTb:Hid (∀X,Below W.heap.size W X->Tab X):=fun X hX=>hT.below (bW.trans (hX.mono bW.size));have HW:Hid _:=hW;clear hW hrow hk hp hl hf hbw hT hr bW;obtain⟨v0,_⟩:=x0 0 _ rfl;obtain⟨v1,_⟩:=x0 1 _ rfl;obtain⟨v2,_⟩:=x0 2 _ rfl;obtain⟨v3,_⟩:=x0 3 _ rfl;obtain⟨v4,_⟩:=x0 4 _ rfl
 obtain⟨v5,_⟩:=x0 5 _ rfl;obtain⟨v6,_⟩:=x0 6 _ rfl;clear x0 xe x1;go_enter Tryz.func11,Tryz.ntmps11;go_upto_region 1 with fail;rw[←HW.out];clear HW;go_wp2_with fail;refine Calls.mono HV.out ?_;rintro e w1 ⟨b1,rfl,hs1,hb1⟩;obtain⟨x0,xe,x1,hbw1,hR1,hr1⟩:=HX.out w1 hb1;have HS1:Hid _:=hs1;have HB1:Hid (Below W.heap.size W w1):=hb1;have HBw1:Hid (Below w.heap.size w w1):=hbw1
 clear HV v0 v1 v2 v3 v4 v5 v6 hs1 hb1;cases b1 with
 |false=>
  have HNo:Hid (¬(StateOk wd now given births ks ps ls/\okE kd s nm num text refs wd=true)):=fun h=>by have:=HS1.out.2 h.1;cases this
  obtain⟨⟨y0,q0⟩,⟨y1,q1⟩,⟨y2,q2⟩,⟨y3,q3⟩,⟨y4,q4⟩,⟨y5,q5⟩,⟨y6,q6⟩,⟨y7,q7⟩,⟨y8,q8⟩,⟨y9,q9⟩,⟨y10,q10⟩,y11,q11⟩:=z12at x1;clear x0 xe x1 hbw1 hR1 hr1;go_wp2;refine bodyPost_ret (v:=.agg (refC 1 ⟨#[]⟩ ⟨#[]⟩).toArray) (by simp[results,Tryz.results11,go_sem,y0,y1,y2,y3,y4,y5,y6,y7,y8,y9,y10,y11,refC]) rfl ?_
  exact⟨HBw1.out.trans (Tn.below (tn12 w1 (w.heap.size+2) _ _ _ _ _ _ _ _ _ _ _ _) HBw1.out.size (by intro v hv;simp at hv;omega)),.inl ⟨HNo.out,rfl⟩⟩
 |true=>
  have hSt:=HS1.out.1 rfl;have HSt:Hid (StateOk wd now given births ks ps ls):=hSt;have HE:Hid _:=iOkE kd s nm num text ra rc refs wd w1 (HTb.out _ HB1.out) (SRow.mono hr1 hbw1.size) hrl htl hnl;obtain⟨e0,_⟩:=xe 0 _ rfl;obtain⟨e1,_⟩:=xe 1 _ rfl;obtain⟨e2,_⟩:=xe 2 _ rfl;obtain⟨e3,_⟩:=xe 3 _ rfl;obtain⟨e4,_⟩:=xe 4 _ rfl;obtain⟨e5,_⟩:=xe 5 _ rfl;obtain⟨v0,_⟩:=x0 0 _ rfl
  clear x0 xe x1 hbw1 hR1 hr1 hSt;go_wp2_with fail;refine Calls.mono HE.out ?_;rintro e w2 ⟨rfl,hb2⟩;have HB2:Hid (Below W.heap.size W w2):=HB1.out.trans (hb2.mono HB1.out.size);obtain⟨x0,xe,x1,hbw2,hR2,hr2⟩:=HX.out w2 HB2.out;have HBw2:Hid (Below w.heap.size w w2):=hbw2;clear e0 e1 e2 e3 e4 e5 v0 HE hb2 HTb;cases hoe:okE kd s nm num text refs wd with
  |false=>
   have HNo:Hid (¬(StateOk wd now given births ks ps ls/\okE kd s nm num text refs wd=true)):=fun h=>by rw[hoe] at h;cases h.2
   obtain⟨⟨y0,q0⟩,⟨y1,q1⟩,⟨y2,q2⟩,⟨y3,q3⟩,⟨y4,q4⟩,⟨y5,q5⟩,⟨y6,q6⟩,⟨y7,q7⟩,⟨y8,q8⟩,⟨y9,q9⟩,⟨y10,q10⟩,y11,q11⟩:=z12at x1;clear x0 xe x1 hbw2 hR2 hr2 hoe;go_wp2;refine bodyPost_ret (v:=.agg (refC 1 ⟨#[]⟩ ⟨#[]⟩).toArray) (by simp[results,Tryz.results11,go_sem,y0,y1,y2,y3,y4,y5,y6,y7,y8,y9,y10,y11,refC]) rfl ?_
   exact⟨HBw2.out.trans (Tn.below (tn12 w2 (w.heap.size+2) _ _ _ _ _ _ _ _ _ _ _ _) HBw2.out.size (by intro v hv;simp at hv;omega)),.inl ⟨HNo.out,rfl⟩⟩
  |true=>
   have HOE:Hid (okE kd s nm num text refs wd=true):=hoe;have hkso:=HSt.out.kso;have HDr:Hid _:=draftOfN_any wd now given births a p l ac pc lc ks ps ls w2 hR2 HSt.out.nth HSt.out.np HSt.out.nl hkso.sz hkso.w8;obtain⟨v0,_⟩:=x0 0 _ rfl;obtain⟨v1,_⟩:=x0 1 _ rfl;obtain⟨v2,_⟩:=x0 2 _ rfl;obtain⟨v3,_⟩:=x0 3 _ rfl;obtain⟨v4,_⟩:=x0 4 _ rfl;obtain⟨v5,_⟩:=x0 5 _ rfl;obtain⟨v6,_⟩:=x0 6 _ rfl
   clear x0 xe x1 hbw2 hR2 hr2 hoe hkso;go_wp2_with fail;refine Calls.mono HDr.out ?_;rintro e w3 ⟨d,m,O,P,L,rfl,hDr,hHU,hHN,hb3⟩;have HB3:Hid (Below W.heap.size W w3):=HB2.out.trans (hb3.mono HB2.out.size);obtain⟨x0,xe,x1,hbw3,hR3,hr3⟩:=HX.out w3 HB3.out;have hz2:w.heap.size+3<=w2.heap.size:=by have:=HB2.out.size;omega
   have HD3:Hid (DU w3 (w2.heap.size+1) d m O P L wd now given births ks ps ls/\HN w3 m 600):=⟨⟨hDr,hHU⟩,hHN⟩;have hd2:w2.heap.size+1<=d:=hDr.bd;have hlts:=hDr.lts;have hdl:d<w3.heap.size:=hDr.box.lt;have haok:AOk wd now given births ks ps ls kd num text refs:=AOk.of HSt.out HOE.out htl
   have HA:Hid _:=attempt_any d (vB d m O P L) kd s nm text num ra refs.length rc (fun c a b=>ANo wd now given births ks ps ls kd s nm num text refs c a b) (fun sm le X=>∃r,AYes wd now given births ks ps ls kd s nm num text refs r/\r.sm=sm/\r.le=le/\Drd (w2.heap.size+1) d m wd r X) w3 hlts (fun sm le X X' R cur h1 h2 h3 h4=>by
    obtain⟨r,g1,g2,g3,g4⟩:=h1;exact⟨r,g1,g2,g3,g4.stays h2 (by omega) (by omega) h4⟩) (fun X hX=>change_any (w2.heap.size+1) d m 600 O P L wd now given births ks ps ls kd s nm num text refs ra rc X (HD3.out.1.below hX) (HD3.out.2.below hX) (by omega) haok (SRow.mono (SRow.below hr3 (hX.mono hbw3.size)) (by omega)))
   have HX3:Hid _:=And.intro x0 (And.intro xe x1);have HBw3:Hid (Below w.heap.size w w3):=hbw3;obtain⟨e0,_⟩:=xe 0 _ rfl;obtain⟨e1,_⟩:=xe 1 _ rfl;obtain⟨e2,_⟩:=xe 2 _ rfl;obtain⟨e3,_⟩:=xe 3 _ rfl;obtain⟨e4,_⟩:=xe 4 _ rfl;obtain⟨e5,_⟩:=xe 5 _ rfl;have hnv:∀j,j<w2.heap.size->j∉vB d m O P L:=fun j hj hin=>by
    have:=HD3.out.1.dr;unfold vB at hin;simp only[List.mem_cons,List.mem_append,Option.mem_toList] at hin;rcases hin with h|h|h|h|h
    ·omega
    ·have:=this.bm;omega
    ·have:=(own_lt this.ord h).1;omega
    ·have:=(own_lt this.pin h).1;omega
    ·have:=(own_lt this.lea h).1;omega
   have HNv:Hid (∀j,j<w2.heap.size->j∉vB d m O P L):=hnv;clear v0 v1 v2 v3 v4 v5 v6 HDr hb3 hDr hHU hHN x0 xe x1 hbw3 hR3 hr3 hlts haok hnv;go_wp2_with fail;refine Calls.mono HA.out ?_;intro e w4 hat;obtain⟨c,a',b',hno,rfl,ht⟩|⟨sm,le,rfl,⟨r,hy,hsm,hle,hdd⟩,ht⟩:=hat
   ·have hc0:(c==0)=false:=by have:=hno.code;simp;omega
    have HNo:Hid _:=hno;have x14:CellsAt w4 (w.heap.size+2) z12:=CellsAt.same HX3.out.2.2 (ht.block _ HX3.out.2.2.lt (HNv.out _ (by omega)));obtain⟨Y,hY⟩:∃Y,Y=w4.alloc (.cells #[.int .i64 c,.int .i64 0,.int .i64 0,.int .i64 0,.int .i64 0,.slice none 0 0,.slice none 0 0,.slice none 0 0,.string ⟨#[]⟩,.int .i64 0,.string a',.string b'] 40):=⟨_,rfl⟩
    have bY:Below w4.heap.size w4 Y:=by rw[hY];exact(Below.refl _ _).alloc (Nat.le_refl _) _
    have yN:CellsAt Y w4.heap.size [.int .i64 c,.int .i64 0,.int .i64 0,.int .i64 0,.int .i64 0,.slice none 0 0,.slice none 0 0,.slice none 0 0,.string ⟨#[]⟩,.int .i64 0,.string a',.string b']:=by rw[hY];exact CellsAt.new w4 _ _
    have yR:=CellsAt.below (v:=.int .i64 0) x14 bY;have HY:Hid _:=hY;have HBf:Hid (Below w.heap.size w Y):=(HBw3.out.trans (ht.below HBw3.out.size (by intro b hb;exact Classical.byContradiction fun e=>HNv.out b (by omega) hb))).trans (bY.mono (Nat.le_trans HBw3.out.size ht.size));have hz4:w.heap.size+3<=w4.heap.size:=by have:=ht.size;have:=HB3.out.size;omega
    obtain⟨⟨y0,q0⟩,⟨y1,q1⟩,⟨y2,q2⟩,⟨y3,q3⟩,⟨y4,q4⟩,⟨y5,q5⟩,⟨y6,q6⟩,⟨y7,q7⟩,⟨y8,q8⟩,⟨y9,q9⟩,⟨y10,q10⟩,y11,q11⟩:=z12at yR;obtain⟨u0,uq0⟩:=yN 0 _ rfl;obtain⟨u1,uq1⟩:=yN 1 _ rfl;obtain⟨u2,uq2⟩:=yN 2 _ rfl;obtain⟨u3,uq3⟩:=yN 3 _ rfl;obtain⟨u4,uq4⟩:=yN 4 _ rfl;obtain⟨u5,uq5⟩:=yN 5 _ rfl;obtain⟨u6,uq6⟩:=yN 6 _ rfl;obtain⟨u7,uq7⟩:=yN 7 _ rfl;obtain⟨u8,uq8⟩:=yN 8 _ rfl;obtain⟨u9,uq9⟩:=yN 9 _ rfl
    obtain⟨u10,uq10⟩:=yN 10 _ rfl;obtain⟨u11,uq11⟩:=yN 11 _ rfl;rw[refC_code];clear e0 e1 e2 e3 e4 e5 HA x14 bY yN yR hY hno ht;go_upto_region 5 with fail;rw[←HY.out];clear HY;go_wp2;refine bodyPost_ret (v:=.agg (refC c a' b').toArray) (by simp[results,Tryz.results11,go_sem,y0,y1,y2,y3,y4,y5,y6,y7,y8,y9,y10,y11,refC]) rfl ?_
    exact⟨HBf.out.trans (Tn.below (tn12 Y (w.heap.size+2) _ _ _ _ _ _ _ _ _ _ _ _) HBf.out.size (by intro v hv;simp at hv;omega)),.inr ⟨⟨HSt.out,HOE.out⟩,.inl ⟨c,a',b',HNo.out,rfl⟩⟩⟩
   ·have x14:CellsAt w4 (w.heap.size+2) z12:=CellsAt.same HX3.out.2.2 (ht.block _ HX3.out.2.2.lt (HNv.out _ (by omega)))
    obtain⟨Y,hY⟩:∃Y,Y=w4.alloc (.cells #[.int .i64 0,.int .i64 0,.int .i64 0,.int .i64 0,.int .i64 0,.slice none 0 0,.slice none 0 0,.slice none 0 0,.string sm,.int .i64 le,.string ⟨#[]⟩,.string ⟨#[]⟩] 40):=⟨_,rfl⟩;have bY:Below w4.heap.size w4 Y:=by rw[hY];exact(Below.refl _ _).alloc (Nat.le_refl _) _
    have yN:CellsAt Y w4.heap.size [.int .i64 0,.int .i64 0,.int .i64 0,.int .i64 0,.int .i64 0,.slice none 0 0,.slice none 0 0,.slice none 0 0,.string sm,.int .i64 le,.string ⟨#[]⟩,.string ⟨#[]⟩]:=by rw[hY];exact CellsAt.new w4 _ _
    have yR:=CellsAt.below (v:=.int .i64 0) x14 bY;have HY:Hid _:=hY;have hz4:w.heap.size+3<=w4.heap.size:=by have:=ht.size;have:=HB3.out.size;omega
    have HBf:Hid (Below w.heap.size w Y):=(HBw3.out.trans (ht.below HBw3.out.size (by intro b hb;exact Classical.byContradiction fun e=>HNv.out b (by omega) hb))).trans (bY.mono (Nat.le_trans HBw3.out.size ht.size));have hfit:=hy.fits HSt.out HOE.out;obtain⟨O',P',L',hDd⟩:=hdd
    have HSa:Hid _:=state_any (w2.heap.size+1) d m O' P' L' wd r.now r.given r.births r.ks r.ps r.ls Y (hDd.below bY) hfit.nd hfit.sz hfit.nk hfit.np hfit.nl hfit.refs;have HYs:Hid (AYes wd now given births ks ps ls kd s nm num text refs r/\r.sm=sm/\r.le=le):=⟨hy,hsm,hle⟩
    have HYn:Hid (CellsAt Y w4.heap.size [.int .i64 0,.int .i64 0,.int .i64 0,.int .i64 0,.int .i64 0,.slice none 0 0,.slice none 0 0,.slice none 0 0,.string sm,.int .i64 le,.string ⟨#[]⟩,.string ⟨#[]⟩]/\CellsAt Y (w.heap.size+2) z12):=⟨yN,yR⟩;obtain⟨u0,_⟩:=yN 0 _ rfl;clear e0 e1 e2 e3 e4 e5 HA x14 bY yN yR hY hy hsm hle hDd hfit ht;go_upto_region 5 with fail;rw[←HY.out];clear HY
    go_wp2_with fail;refine Calls.mono HSa.out ?_;rintro e w5 ⟨T,PP,LL,rs,rfl,hS5,hb5⟩;obtain⟨ta,tc,hTe⟩:=own_val hS5.things;obtain⟨pa,pca,hPe⟩:=own_val hS5.pins;obtain⟨la,lca,hLe⟩:=own_val hS5.leases;subst hTe hPe hLe;have yN:=CellsAt.below HYn.out.1 hb5;have yR:=CellsAt.below (v:=.int .i64 0) HYn.out.2 hb5;have HS5:Hid _:=hS5
    have HB5:Hid (Below w.heap.size w w5):=HBf.out.trans (hb5.mono HBf.out.size);have hzY:w4.heap.size<Y.heap.size:=HYn.out.1.lt;obtain⟨⟨y0,q0⟩,⟨y1,q1⟩,⟨y2,q2⟩,⟨y3,q3⟩,⟨y4,q4⟩,⟨y5,q5⟩,⟨y6,q6⟩,⟨y7,q7⟩,⟨y8,q8⟩,⟨y9,q9⟩,⟨y10,q10⟩,y11,q11⟩:=z12at yR;obtain⟨p0,pq0⟩:=yN 0 _ rfl;obtain⟨p1,pq1⟩:=yN 1 _ rfl;obtain⟨p2,pq2⟩:=yN 2 _ rfl;obtain⟨p3,pq3⟩:=yN 3 _ rfl;obtain⟨p4,pq4⟩:=yN 4 _ rfl
    obtain⟨p5,pq5⟩:=yN 5 _ rfl;obtain⟨p6,pq6⟩:=yN 6 _ rfl;obtain⟨p7,pq7⟩:=yN 7 _ rfl;obtain⟨p8,pq8⟩:=yN 8 _ rfl;obtain⟨p9,pq9⟩:=yN 9 _ rfl;obtain⟨p10,pq10⟩:=yN 10 _ rfl;obtain⟨p11,pq11⟩:=yN 11 _ rfl;clear u0 HSa hS5 hb5 yN yR HYn
    have key:∀X,Tn [w4.heap.size,w.heap.size+2] w5 X->IApp wd now given births ks ps ls kd s nm num text refs w (.returned (.agg #[.int .i64 0,.int .i64 wd,.int .i64 r.now,.int .i64 r.given,.int .i64 r.births,.slice ta r.ks.length tc,.slice pa r.ps.length pca,.slice la r.ls.length lca,.string sm,.int .i64 le,.string ⟨#[]⟩,.string ⟨#[]⟩])) X:=fun X hT=>by
     refine⟨HB5.out.trans (hT.below HB5.out.size (by intro v hv;simp at hv;omega)),.inr ⟨⟨HSt.out,HOE.out⟩,.inr ⟨r,_,_,_,rs,HYs.out.1,by rw[HYs.out.2.1,HYs.out.2.2],(HS5.out.turn hT (by intro v hv;simp at hv;omega)).mono HBf.out.size⟩⟩⟩
    have HKey:Hid _:=key;clear key;go_wp2;refine bodyPost_ret (v:=.agg #[.int .i64 0,.int .i64 wd,.int .i64 r.now,.int .i64 r.given,.int .i64 r.births,.slice ta r.ks.length tc,.slice pa r.ps.length pca,.slice la r.ls.length lca,.string sm,.int .i64 le,.string ⟨#[]⟩,.string ⟨#[]⟩]) (by simp[results,Tryz.results11,go_sem,y0,y1,y2,y3,y4,y5,y6,y7,y8,y9,y10,y11]) rfl ?_;refine HKey.out _ ?_
    repeat refine Tn.trans ?_ (Tn.set _ _ _ _ (by simp))
    exact Tn.of (Below.refl _ _)
end Go.Proofs.YthkmpihfhkmaoaaGreatDoor
namespace Go.Proofs.YthkmpihfhkmaoaaGreatDoor
open Go.ChangeShapes Go.WideShapes Go.ChangeAt Go.RowKit
theorem nilS (w:World) (base:Nat):SAns w base (.slice none 0 0) (.slice none 0 0) (.slice none 0 0) [] [] [] []:=
 ⟨rfl,⟨rfl,.inl ⟨rfl,rfl⟩⟩,fun i k r hk=>(by simp at hk),⟨rfl,.inl ⟨rfl,rfl⟩⟩,⟨rfl,.inl ⟨rfl,rfl⟩⟩,List.nodup_nil⟩
structure An where
 code:Int
 wd:Int
 now:Int
 given:Int
 births:Int
 le:Int
 sm:ByteArray
 a:ByteArray
 b:ByteArray
 ks:List Kd
 ps:List Pd
 ls:List Ld
def AnTo (wd now given births:Int) (ks:List Kd) (ps:List Pd) (ls:List Ld) (kd:Int) (s nm:ByteArray) (num:Int) (text:ByteArray) (refs:List ByteArray) (x:An):Prop:=
 (¬(StateOk wd now given births ks ps ls/\okE kd s nm num text refs wd=true)/\x=⟨1,0,0,0,0,0,⟨#[]⟩,⟨#[]⟩,⟨#[]⟩,[],[],[]⟩)∨
 ((StateOk wd now given births ks ps ls/\okE kd s nm num text refs wd=true)/\(
   (∃c a b,ANo wd now given births ks ps ls kd s nm num text refs c a b/\x=⟨c,0,0,0,0,0,⟨#[]⟩,a,b,[],[],[]⟩)∨
   (∃r,AYes wd now given births ks ps ls kd s nm num text refs r/\x=⟨0,wd,r.now,r.given,r.births,r.le,r.sm,⟨#[]⟩,⟨#[]⟩,r.ks,r.ps,r.ls⟩)))
section
variable {wd now given births:Int} {ks:List Kd} {ps:List Pd} {ls:List Ld} {kd:Int} {s nm:ByteArray} {num:Int} {text:ByteArray} {refs:List ByteArray}
theorem AnTo.det {x y:An} (h1:AnTo wd now given births ks ps ls kd s nm num text refs x) (h2:AnTo wd now given births ks ps ls kd s nm num text refs y):x=y:=by
 rcases h1 with⟨n1,rfl⟩|⟨g1,h1⟩<;>rcases h2 with⟨n2,rfl⟩|⟨g2,h2⟩
 ·rfl
 ·exact absurd g2 n1
 ·exact absurd g1 n2
 ·have hnd:=g1.1.kso.nd
  rcases h1 with⟨c,a,b,h1,rfl⟩|⟨r,h1,rfl⟩<;>rcases h2 with⟨c',a',b',h2,rfl⟩|⟨r',h2,rfl⟩
  ·obtain⟨rfl,rfl,rfl⟩:=h1.det hnd h2
   rfl
  ·exact absurd h2 (fun h=>h1.not hnd h)
  ·exact absurd h1 (fun h=>h2.not hnd h)
  ·obtain rfl:=h1.det h2
   rfl
theorem IApp.ans {w w':World} {e:Ending} (h:IApp wd now given births ks ps ls kd s nm num text refs w e w'):∃(x:An) (T P L:Value) (rs:List Value),AnTo wd now given births ks ps ls kd s nm num text refs x/\e=.returned (.agg #[.int .i64 x.code,.int .i64 x.wd,.int .i64 x.now,.int .i64 x.given,.int .i64 x.births,T,P,L,.string x.sm,.int .i64 x.le,.string x.a,.string x.b])/\SAns w' w.heap.size T P L rs x.ks x.ps x.ls/\Below w.heap.size w w':=by
 obtain⟨hb,⟨hn,rfl⟩|⟨hg,⟨c,a,b,h1,rfl⟩|⟨r,T,P,L,rs,h1,rfl,hS⟩⟩⟩:=h
 ·exact⟨_,_,_,_,_,.inl ⟨hn,rfl⟩,rfl,nilS _ _,hb⟩
 ·exact⟨_,_,_,_,_,.inr ⟨hg,.inl ⟨c,a,b,h1,rfl⟩⟩,rfl,nilS _ _,hb⟩
 ·exact⟨_,T,P,L,rs,.inr ⟨hg,.inr ⟨r,h1,rfl⟩⟩,rfl,hS,hb⟩
end
end Go.Proofs.YthkmpihfhkmaoaaGreatDoor
