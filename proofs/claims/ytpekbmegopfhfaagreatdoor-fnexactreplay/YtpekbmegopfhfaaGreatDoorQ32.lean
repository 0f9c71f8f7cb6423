import Derived.Test.YtpekbmegopfhfaaGreatDoorQ31
import Derived.Test.YtpekbmegopfhfaaGreatDoorQ29
import Derived.Test.YtpekbmegopfhfaaGreatDoorQ01
namespace Go.Proofs.YtpekbmegopfhfaaGreatDoor
namespace ExactReplay
open Go.ChangeShapes Go.WideShapes Go.ChangeAt Go.RowKit
theorem small {wd:Int} {xs:List ByteArray} {x:An} (h:RTo wd xs x):AnSmall x:=by
 rcases h with⟨_,rfl⟩|⟨g,⟨n,_,rfl⟩|⟨r,h,rfl⟩⟩
 ·exact⟨by simp,by simp,by simp,by simp⟩
 ·exact⟨by simp,by simp,by simp,by simp⟩
 ·have hf:=h.ok (r0_ok g.1.1 g.1.2)
  exact⟨hf.kso.len,hf.r30,hf.np,hf.nl⟩
structure E1 (w wx:World) (L B8:Nat) (o:An) (ta pa la:Option Addr) (tc pc lc:Nat):Prop where
 r8:CellsAt wx B8 [.int .i64 o.code,.int .i64 o.wd,.int .i64 o.now,.int .i64 o.given,.int .i64 o.births,.slice ta o.ks.length tc,.slice pa o.ps.length pc,.slice la o.ls.length lc,.string o.sm,.int .i64 o.le,.string o.a,.string o.b]
 k:KRow wx L ta o.ks
 p:PRow wx L pa o.ps
 l:LRow wx L la o.ls
 bel:Below w.heap.size w wx
 l0:w.heap.size<=L
 l8:B8<L
 le:L<=wx.heap.size
theorem E1.keep {w wx wy:World} {L B8:Nat} {o:An} {ta pa la:Option Addr} {tc pc lc:Nat} (h:E1 w wx L B8 o ta pa la tc pc lc) (hb:Below L wx wy):E1 w wy L B8 o ta pa la tc pc lc:=
 ⟨CellsAt.same h.r8 (hb.block B8 h.l8),h.k.below hb,h.p.below hb,h.l.below hb,h.bel.trans (hb.mono h.l0),h.l0,h.l8,Nat.le_trans h.le hb.size⟩
theorem E1.st {w wx:World} {L B8:Nat} {o:An} {ta pa la:Option Addr} {tc pc lc:Nat} (h:E1 w wx L B8 o ta pa la tc pc lc):SRows wx wx.heap.size ta pa la o.ks o.ps o.ls:=
 ⟨h.k.mono h.le,h.p.mono h.le,h.l.mono h.le⟩
set_option maxRecDepth 20000 in
set_option maxHeartbeats 16000000 in
theorem walk (wd:Int) (a:Option Addr) (cap:Nat) (xs:List ByteArray) (w:World) (hE:Env w) (hrow:SRow w w.heap.size a xs) (hl:xs.length<=maxLen) (hs:∀s∈xs,s.size<=maxLen):
 Calls Tryz.prog 3 #[.int .i64 wd,.slice a xs.length cap] w fun e w'=>e=.returned (.bool true)/\Below w.heap.size w w':=by
 by_cases hfit:(xs.length:Int)+bulk xs<=1048576
 ·have hl':xs.length<=1048576:=by omega
  have hs':∀s∈xs,s.size<=1048576:=fun s hx=>by
   obtain⟨i,hi⟩:=List.getElem?_of_mem hx;have:=le_bulk xs i s hi;omega
  have HT:Hid (∀W,Below w.heap.size w W->Calls Tryz.prog 11 #[.slice a xs.length cap] W fun e w'=>∃g,e=.returned (.slice (some ⟨g,0,none⟩) xs.length xs.length)/\W.heap.size<=g/\w'.ownsRow W.heap.size 9 1 (.slice (some ⟨g,0,none⟩) xs.length xs.length) xs.length (xs.map Value.string)/\Below W.heap.size W w'):=fun W hB=>toS_any a cap xs W (hrow.below' hB) hl'
  have HS:Hid (∀(W:World) (g:Nat),Below w.heap.size w W->SRow W W.heap.size (some ⟨g,0,none⟩) xs->Calls Tryz.prog 10 #[.int .i64 wd,.slice (some ⟨g,0,none⟩) xs.length xs.length] W fun e w'=>∃(o:An) (ta':Option Addr) (tc':Nat) (pa':Option Addr) (pc':Nat) (la':Option Addr) (lc':Nat) (rs:List Value),e=.returned (.agg #[.int .i64 o.code,.int .i64 o.wd,.int .i64 o.now,.int .i64 o.given,.int .i64 o.births,.slice ta' o.ks.length tc',.slice pa' o.ps.length pc',.slice la' o.ls.length lc',.string o.sm,.int .i64 o.le,.string o.a,.string o.b])/\RTo wd xs o/\SAns w' W.heap.size (.slice ta' o.ks.length tc') (.slice pa' o.ps.length pc') (.slice la' o.ls.length lc') rs o.ks o.ps o.ls/\Below W.heap.size W w'):=fun W g _ h=>by
   refine(sReplay_any wd _ _ xs W h hl' hs').mono ?_;rintro e w' ⟨o,T,P,L,rs,hto,rfl,hS,hb⟩;obtain⟨ta,tc,pa,pc,la,lc,rfl,rfl,rfl,_⟩:=hS.rows;exact⟨o,ta,tc,pa,pc,la,lc,rs,rfl,hto,hS,hb⟩
  have HI:Hid (∀(W:World) (g:Nat),Below w.heap.size w W->SRow W W.heap.size (some ⟨g,0,none⟩) xs->Calls Tryz.prog 12 #[.int .i64 wd,.slice (some ⟨g,0,none⟩) xs.length xs.length] W fun e w'=>∃(o:An) (ta':Option Addr) (tc':Nat) (pa':Option Addr) (pc':Nat) (la':Option Addr) (lc':Nat) (rs:List Value),e=.returned (.agg #[.int .i64 o.code,.int .i64 o.wd,.int .i64 o.now,.int .i64 o.given,.int .i64 o.births,.slice ta' o.ks.length tc',.slice pa' o.ps.length pc',.slice la' o.ls.length lc',.string o.sm,.int .i64 o.le,.string o.a,.string o.b])/\RTo wd xs o/\SAns w' W.heap.size (.slice ta' o.ks.length tc') (.slice pa' o.ps.length pc') (.slice la' o.ls.length lc') rs o.ks o.ps o.ls/\Below W.heap.size W w'):=fun W g hB h=>by
   refine(iReplay_any wd _ _ xs W h hl' hs' (hE.below hB)).mono ?_;rintro e w' ⟨o,T,P,L,rs,hto,rfl,hS,hb⟩;obtain⟨ta,tc,pa,pc,la,lc,rfl,rfl,rfl,_⟩:=hS.rows;exact⟨o,ta,tc,pa,pc,la,lc,rs,rfl,hto,hS,hb⟩
  have HZ:Hid _:=szS_yes a cap xs 1048576 w w.heap.size hrow (by omega) hfit;have hleft:0<=1048576 -(xs.length:Int) -bulk xs:=by omega
  clear hE hrow hl hs hs' hfit;go_enter Tryz.func3,Tryz.ntmps3;go_wp2_with fail;refine Calls.mono HZ.out ?_;rintro e w1 ⟨rfl,hw1⟩;replace hw1:=hw1.symm;subst hw1;generalize 1048576 -(xs.length:Int) -bulk xs=left at *
  clear HZ;go_wp2_with fail;refine(HT.out w (Below.refl _ _)).mono ?_;rintro e w2 ⟨g2,rfl,_,ho2,hb2⟩;have hr2:=SRow.own ho2;clear ho2;go_wp2_with fail;refine(HS.out w2 g2 hb2 hr2).mono ?_;rintro e w3 ⟨o,ta3,tc3,pa3,pc3,la3,lc3,rs3,rfl,hto,hS3,hb3⟩;have hget:=SAns.get hS3;have HTo:Hid (RTo wd xs o):=hto;have HSm:Hid (AnSmall o):=small hto;have hB3:=hb2.trans (hb3.mono hb2.size)
  obtain⟨W3,hW3⟩:∃W,W=w3.alloc (.cells #[.int .i64 o.code,.int .i64 o.wd,.int .i64 o.now,.int .i64 o.given,.int .i64 o.births,.slice ta3 o.ks.length tc3,.slice pa3 o.ps.length pc3,.slice la3 o.ls.length lc3,.string o.sm,.int .i64 o.le,.string o.a,.string o.b] 30):=⟨_,rfl⟩;have bW3:Below w3.heap.size w3 W3:=by rw[hW3];exact(Below.refl _ _).alloc (Nat.le_refl _) _
  have X3:Hid (CellsAt W3 w3.heap.size [.int .i64 o.code,.int .i64 o.wd,.int .i64 o.now,.int .i64 o.given,.int .i64 o.births,.slice ta3 o.ks.length tc3,.slice pa3 o.ps.length pc3,.slice la3 o.ls.length lc3,.string o.sm,.int .i64 o.le,.string o.a,.string o.b]):=by show CellsAt W3 w3.heap.size [.int .i64 o.code,.int .i64 o.wd,.int .i64 o.now,.int .i64 o.given,.int .i64 o.births,.slice ta3 o.ks.length tc3,.slice pa3 o.ps.length pc3,.slice la3 o.ls.length lc3,.string o.sm,.int .i64 o.le,.string o.a,.string o.b];rw[hW3];exact CellsAt.new w3 _ _
  have zW3:W3.heap.size=w3.heap.size+1:=by rw[hW3];simp
  have HW3:Hid _:=hW3;clear hW3;obtain⟨L,hL⟩:∃L,L=W3.heap.size:=⟨_,rfl⟩;have hgetW:=SRows.below' hget bW3;have E:Hid (E1 w W3 L w3.heap.size o ta3 pa3 la3 tc3 pc3 lc3):=⟨X3.out,hL▸hgetW.k,hL▸hgetW.p,hL▸hgetW.l,hB3.trans (bW3.mono hB3.size),by have:=hB3.size;omega,by omega,by omega⟩;clear HS hto hS3 hget hgetW X3 hb2 hb3 hr2 hB3 bW3
  as_aux_lemma=>
  go_wp2_with fail;rw[←HW3.out];clear HW3;refine(HT.out W3 E.out.bel).mono ?_;rintro e w4 ⟨g4,rfl,hg4,ho4,hb4⟩;replace E:Hid _:=E1.keep E.out (hb4.mono E.out.le);have lg4:=ho4.lt g4 rfl;have hz4:=hb4.size;have O10:Hid _:=ho4;clear ho4 hb4
  as_aux_lemma=>
  go_wp2_with fail;refine(HI.out w4 g4 E.out.bel (SRow.own O10.out)).mono ?_;rintro e w5 ⟨o6,ta6,tc6,pa6,pc6,la6,lc6,rs,rfl,hto6,hA6,hw5⟩;obtain rfl:o=o6:=HTo.out.det hto6;replace E:Hid _:=E1.keep E.out (hw5.mono E.out.le);replace O10:Hid _:=own_keep O10.out hw5
  have HV6:Hid (∀g∈blks (.slice ta6 o.ks.length tc6) (.slice pa6 o.ps.length pc6) (.slice la6 o.ls.length lc6) rs,w4.heap.size<=g/\g<w5.heap.size):=fun g hg=>⟨hA6.lo g hg,hA6.lts g hg⟩;have hz5:=hw5.size;have O11:Hid (SAns w5 w4.heap.size (.slice ta6 o.ks.length tc6) (.slice pa6 o.ps.length pc6) (.slice la6 o.ls.length lc6) rs o.ks o.ps o.ls):=hA6;clear hA6 hto6 hw5
  obtain⟨W5,hW5⟩:∃W,W=w5.alloc (.cells #[.int .i64 o.code,.int .i64 o.wd,.int .i64 o.now,.int .i64 o.given,.int .i64 o.births,.slice ta6 o.ks.length tc6,.slice pa6 o.ps.length pc6,.slice la6 o.ls.length lc6,.string o.sm,.int .i64 o.le,.string o.a,.string o.b] 30):=⟨_,rfl⟩;have bW5:Below w5.heap.size w5 W5:=by rw[hW5];exact(Below.refl _ _).alloc (Nat.le_refl _) _
  have X11:Hid (CellsAt W5 w5.heap.size [.int .i64 o.code,.int .i64 o.wd,.int .i64 o.now,.int .i64 o.given,.int .i64 o.births,.slice ta6 o.ks.length tc6,.slice pa6 o.ps.length pc6,.slice la6 o.ls.length lc6,.string o.sm,.int .i64 o.le,.string o.a,.string o.b]):=by show CellsAt W5 w5.heap.size [.int .i64 o.code,.int .i64 o.wd,.int .i64 o.now,.int .i64 o.given,.int .i64 o.births,.slice ta6 o.ks.length tc6,.slice pa6 o.ps.length pc6,.slice la6 o.ls.length lc6,.string o.sm,.int .i64 o.le,.string o.a,.string o.b];rw[hW5];exact CellsAt.new w5 _ _
  have zW5:W5.heap.size=w5.heap.size+1:=by rw[hW5];simp
  have HW5:Hid _:=hW5;clear hW5;replace E:Hid _:=E1.keep E.out (bW5.mono E.out.le);replace O10:Hid _:=own_keep O10.out bW5;replace O11:Hid _:=SAns.below O11.out bW5;clear bW5
  as_aux_lemma=>
  go_upto_region 8 with fail;rw[←HW5.out];clear HW5;obtain⟨⟨y0,_⟩,⟨y1,_⟩,⟨y2,_⟩,⟨y3,_⟩,⟨y4,_⟩,⟨y5,_⟩,⟨y6,_⟩,⟨y7,_⟩,⟨y8,_⟩,⟨y9,_⟩,⟨y10,_⟩,y11,_⟩:=c12 E.out.r8;obtain⟨⟨v0,_⟩,⟨v1,_⟩,⟨v2,_⟩,⟨v3,_⟩,⟨v4,_⟩,⟨v5,_⟩,⟨v6,_⟩,⟨v7,_⟩,⟨v8,_⟩,⟨v9,_⟩,⟨v10,_⟩,v11,_⟩:=c12 X11.out;have hR6:=SAns.get O11.out;go_wp2_with fail
  refine(eqChanged_row o.code o.wd o.now o.given o.births o.le o.sm o.a o.b ta6 pa6 la6 tc6 pc6 lc6 ta3 pa3 la3 tc3 pc3 lc3 o.ks o.ps o.ls W5 hR6 E.out.st HSm.out.fit).mono ?_;rintro e w6 ⟨rfl,hw6⟩;clear y0 y1 y2 y3 y4 y5 y6 y7 y8 y9 y10 y11 v0 v1 v2 v3 v4 v5 v6 v7 v8 v9 v10 v11 hR6
  try generalize (.agg #[.int .i64 o.code,.int .i64 o.wd,.int .i64 o.now,.int .i64 o.given,.int .i64 o.births,.slice ta6 o.ks.length tc6,.slice pa6 o.ps.length pc6,.slice la6 o.ls.length lc6,.string o.sm,.int .i64 o.le,.string o.a,.string o.b]:Value)=dv0
  try generalize (.agg #[.int .i64 o.code,.int .i64 o.wd,.int .i64 o.now,.int .i64 o.given,.int .i64 o.births,.slice ta3 o.ks.length tc3,.slice pa3 o.ps.length pc3,.slice la3 o.ls.length lc3,.string o.sm,.int .i64 o.le,.string o.a,.string o.b]:Value)=dv1
  replace E:Hid _:=E1.keep E.out (hw6.mono E.out.le);replace O10:Hid _:=own_keep O10.out hw6;replace X11:Hid _:=CellsAt.below X11.out hw6;replace O11:Hid _:=SAns.below O11.out hw6;have hz6:=hw6.size;clear hw6
  as_aux_lemma=>
  go_wp2_with fail;refine(HT.out w6 E.out.bel).mono ?_;rintro e w7 ⟨g7,rfl,_,ho7,hw7⟩;have hr7:=SRow.own ho7;replace E:Hid _:=E1.keep E.out (hw7.mono E.out.le);replace O10:Hid _:=own_keep O10.out hw7;replace X11:Hid _:=CellsAt.below X11.out hw7;replace O11:Hid _:=SAns.below O11.out hw7;have hz7:=hw7.size;clear ho7 hw7;go_wp2_with fail
  refine(eqS_yes _ _ _ _ xs w7 w7.heap.size w7.heap.size (SRow.own O10.out) hr7 hl').mono ?_;rintro e w8 ⟨rfl,n8,hn8⟩;have hw8:Below w7.heap.size w7 w8:=by rw[hn8];exact⟨rfl,rfl,rfl,Nat.le_refl _,fun _ _=>rfl⟩
  replace E:Hid _:=E1.keep E.out (hw8.mono E.out.le);replace O10:Hid _:=own_keep O10.out hw8;replace X11:Hid _:=CellsAt.below X11.out hw8;replace O11:Hid _:=SAns.below O11.out hw8;have hz8:=hw8.size;clear hw8 hn8 hr7
  as_aux_lemma=>
  go_wp2_with fail;refine(markS_any _ _ _ 1 _ _ w8 O10.out (by omega) (by omega)).mono ?_;rintro e w9 ⟨rfl,_,hg9⟩;have ht9:Tn [g4] w8 w9:=Tn.grown hg9 (by simp);have hz9:=ht9.size;replace E:Hid _:=E1.keep E.out (ht9.below (by omega) (fun j hj=>by simp at hj;omega));replace X11:Hid _:=CellsAt.same X11.out (ht9.block _ (by omega) (by simp;omega))
  replace O11:Hid _:=SAns.same O11.out (fun j hj hj'=>ht9.block j hj' (by simp;omega));clear ht9 hg9 O10;have hnn:decide ((1:Int)+xs.length<0)=false:=by simp;omega
  as_aux_lemma=>
  obtain⟨⟨y0,_⟩,⟨y1,_⟩,⟨y2,_⟩,⟨y3,_⟩,⟨y4,_⟩,⟨y5,_⟩,⟨y6,_⟩,⟨y7,_⟩,⟨y8,_⟩,⟨y9,_⟩,⟨y10,_⟩,y11,_⟩:=c12 E.out.r8;obtain⟨⟨v0,_⟩,⟨v1,_⟩,⟨v2,_⟩,⟨v3,_⟩,⟨v4,_⟩,⟨v5,_⟩,⟨v6,_⟩,⟨v7,_⟩,⟨v8,_⟩,⟨v9,_⟩,⟨v10,_⟩,v11,_⟩:=c12 X11.out;have hR6:=SAns.get O11.out;go_wp2_with fail
  refine(eqChanged_row o.code o.wd o.now o.given o.births o.le o.sm o.a o.b ta6 pa6 la6 tc6 pc6 lc6 ta3 pa3 la3 tc3 pc3 lc3 o.ks o.ps o.ls w9 hR6 E.out.st HSm.out.fit).mono ?_;rintro e w13 ⟨rfl,hw13⟩;clear y0 y1 y2 y3 y4 y5 y6 y7 y8 y9 y10 y11 v0 v1 v2 v3 v4 v5 v6 v7 v8 v9 v10 v11 hR6
  try generalize (.agg #[.int .i64 o.code,.int .i64 o.wd,.int .i64 o.now,.int .i64 o.given,.int .i64 o.births,.slice ta6 o.ks.length tc6,.slice pa6 o.ps.length pc6,.slice la6 o.ls.length lc6,.string o.sm,.int .i64 o.le,.string o.a,.string o.b]:Value)=dv0
  try generalize (.agg #[.int .i64 o.code,.int .i64 o.wd,.int .i64 o.now,.int .i64 o.given,.int .i64 o.births,.slice ta3 o.ks.length tc3,.slice pa3 o.ps.length pc3,.slice la3 o.ls.length lc3,.string o.sm,.int .i64 o.le,.string o.a,.string o.b]:Value)=dv1
  replace E:Hid _:=E1.keep E.out (hw13.mono E.out.le);replace X11:Hid _:=CellsAt.below X11.out hw13;replace O11:Hid _:=SAns.below O11.out hw13;have hz13:=hw13.size;clear hw13
  as_aux_lemma=>
  obtain⟨⟨v0,_⟩,⟨v1,_⟩,⟨v2,_⟩,⟨v3,_⟩,⟨v4,_⟩,⟨v5,_⟩,⟨v6,_⟩,⟨v7,_⟩,⟨v8,_⟩,⟨v9,_⟩,⟨v10,_⟩,v11,_⟩:=c12 X11.out;go_wp2_with fail;refine(markChangedX o.code o.wd o.now o.given o.births o.le o.sm o.a o.b w4.heap.size 1 _ _ _ rs o.ks o.ps o.ls w13 O11.out (Nat.le_refl _) HSm.out.count).mono ?_;rintro e w14 ⟨rfl,hA14,ht14⟩;have hz14:=ht14.size
  replace E:Hid _:=E1.keep E.out (ht14.below (by omega) (fun j hj=>by have:=HV6.out j hj;omega));replace X11:Hid _:=CellsAt.same X11.out (ht14.block _ (by omega) (fun e=>by have:=HV6.out _ e;omega));have HC14:Hid _:=hA14;clear v0 v1 v2 v3 v4 v5 v6 v7 v8 v9 v10 v11 ht14 hA14 O11
  try generalize (.agg #[.int .i64 o.code,.int .i64 o.wd,.int .i64 o.now,.int .i64 o.given,.int .i64 o.births,.slice ta6 o.ks.length tc6,.slice pa6 o.ps.length pc6,.slice la6 o.ls.length lc6,.string o.sm,.int .i64 o.le,.string o.a,.string o.b]:Value)=dv0
  have hcnt:=HSm.out.count;obtain⟨nn,hnn2⟩:∃nn,nn=1+cntS o.ks o.ps o.ls:=⟨_,rfl⟩
  have HHeld:Hid (∀W,SAns W w4.heap.size (.slice ta6 o.ks.length tc6) (.slice pa6 o.ps.length pc6) (.slice la6 o.ls.length lc6) rs (markK 1 o.ks) (markP (1+o.ks.length *3+refsN o.ks) o.ps) (markL (1+o.ks.length *3+refsN o.ks+o.ps.length *2) o.ls)->Calls Tryz.prog 17 #[.agg #[.int .i64 o.code,.int .i64 o.wd,.int .i64 o.now,.int .i64 o.given,.int .i64 o.births,.slice ta6 o.ks.length tc6,.slice pa6 o.ps.length pc6,.slice la6 o.ls.length lc6,.string o.sm,.int .i64 o.le,.string o.a,.string o.b],.int .i64 1] W fun e w'=>e=.returned (.int .i64 (nn:Int))/\Below W.heap.size W w'):=fun W hW=>by
   rw[hnn2];exact heldChangedX o.code o.wd o.now o.given o.births o.le o.sm o.a o.b w4.heap.size 1 _ _ _ rs o.ks o.ps o.ls W hW (Nat.le_refl _) HSm.out.count
  rw[←hnn2] at hcnt ⊢;have hnq:decide ((nn:Int)<0)=false:=by simp
  have hne:((nn:Int) !=(nn:Int))=false:=by simp
  clear hnn2
  as_aux_lemma=>
  obtain⟨⟨v0,_⟩,⟨v1,_⟩,⟨v2,_⟩,⟨v3,_⟩,⟨v4,_⟩,⟨v5,_⟩,⟨v6,_⟩,⟨v7,_⟩,⟨v8,_⟩,⟨v9,_⟩,⟨v10,_⟩,v11,_⟩:=c12 X11.out;go_wp2_with fail;refine(HHeld.out w14 HC14.out).mono ?_;rintro e w15 ⟨rfl,hw15⟩;clear v0 v1 v2 v3 v4 v5 v6 v7 v8 v9 v10 v11
  try generalize (.agg #[.int .i64 o.code,.int .i64 o.wd,.int .i64 o.now,.int .i64 o.given,.int .i64 o.births,.slice ta6 o.ks.length tc6,.slice pa6 o.ps.length pc6,.slice la6 o.ls.length lc6,.string o.sm,.int .i64 o.le,.string o.a,.string o.b]:Value)=dv0
  replace E:Hid _:=E1.keep E.out (hw15.mono E.out.le);replace X11:Hid _:=CellsAt.below X11.out hw15;replace HC14:Hid _:=SAns.below HC14.out hw15;have hz15:=hw15.size;clear hw15
  as_aux_lemma=>
  go_wp2_with fail;refine(HT.out w15 E.out.bel).mono ?_;rintro e w16 ⟨g16,rfl,_,ho16,hw16⟩;have hr16:=SRow.own ho16;replace E:Hid _:=E1.keep E.out (hw16.mono E.out.le);replace X11:Hid _:=CellsAt.below X11.out hw16;replace HC14:Hid _:=SAns.below HC14.out hw16;have hz16:=hw16.size;clear ho16 hw16;go_wp2_with fail;refine(HI.out w16 g16 E.out.bel hr16).mono ?_
  rintro e w17 ⟨o9,ta9,tc9,pa9,pc9,la9,lc9,rs9,rfl,hto9,hA9,hw17⟩;obtain rfl:o=o9:=HTo.out.det hto9;replace E:Hid _:=E1.keep E.out (hw17.mono E.out.le);replace X11:Hid _:=CellsAt.below X11.out hw17;replace HC14:Hid _:=SAns.below HC14.out hw17;have hR9:=SAns.get hA9;have hz17:=hw17.size;clear hw17 hto9 hA9 hr16 HT HI
  obtain⟨W17,hW17⟩:∃W,W=w17.alloc (.cells #[.int .i64 o.code,.int .i64 o.wd,.int .i64 o.now,.int .i64 o.given,.int .i64 o.births,.slice ta9 o.ks.length tc9,.slice pa9 o.ps.length pc9,.slice la9 o.ls.length lc9,.string o.sm,.int .i64 o.le,.string o.a,.string o.b] 30):=⟨_,rfl⟩;have bW17:Below w17.heap.size w17 W17:=by rw[hW17];exact(Below.refl _ _).alloc (Nat.le_refl _) _
  have X17:Hid (CellsAt W17 w17.heap.size [.int .i64 o.code,.int .i64 o.wd,.int .i64 o.now,.int .i64 o.given,.int .i64 o.births,.slice ta9 o.ks.length tc9,.slice pa9 o.ps.length pc9,.slice la9 o.ls.length lc9,.string o.sm,.int .i64 o.le,.string o.a,.string o.b]):=by show CellsAt W17 w17.heap.size [.int .i64 o.code,.int .i64 o.wd,.int .i64 o.now,.int .i64 o.given,.int .i64 o.births,.slice ta9 o.ks.length tc9,.slice pa9 o.ps.length pc9,.slice la9 o.ls.length lc9,.string o.sm,.int .i64 o.le,.string o.a,.string o.b];rw[hW17];exact CellsAt.new w17 _ _
  have zW17:W17.heap.size=w17.heap.size+1:=by rw[hW17];simp
  have HW17:Hid _:=hW17;clear hW17;replace E:Hid _:=E1.keep E.out (bW17.mono E.out.le);replace X11:Hid _:=CellsAt.below X11.out bW17;replace HC14:Hid _:=SAns.below HC14.out bW17;replace hR9:=SRows.below' hR9 bW17;have HR9:Hid _:=hR9;clear hR9 bW17
  as_aux_lemma=>
  go_upto_region 25 with fail;rw[←HW17.out];clear HW17;obtain⟨⟨y0,_⟩,⟨y1,_⟩,⟨y2,_⟩,⟨y3,_⟩,⟨y4,_⟩,⟨y5,_⟩,⟨y6,_⟩,⟨y7,_⟩,⟨y8,_⟩,⟨y9,_⟩,⟨y10,_⟩,y11,_⟩:=c12 E.out.r8;obtain⟨⟨v0,_⟩,⟨v1,_⟩,⟨v2,_⟩,⟨v3,_⟩,⟨v4,_⟩,⟨v5,_⟩,⟨v6,_⟩,⟨v7,_⟩,⟨v8,_⟩,⟨v9,_⟩,⟨v10,_⟩,v11,_⟩:=c12 X17.out;have hR9:=HR9.out;go_wp2_with fail
  refine(eqChanged_row o.code o.wd o.now o.given o.births o.le o.sm o.a o.b ta9 pa9 la9 tc9 pc9 lc9 ta3 pa3 la3 tc3 pc3 lc3 o.ks o.ps o.ls W17 hR9 E.out.st HSm.out.fit).mono ?_;rintro e w18 ⟨rfl,hw18⟩;clear y0 y1 y2 y3 y4 y5 y6 y7 y8 y9 y10 y11 v0 v1 v2 v3 v4 v5 v6 v7 v8 v9 v10 v11 hR9 X17 HR9
  try generalize (.agg #[.int .i64 o.code,.int .i64 o.wd,.int .i64 o.now,.int .i64 o.given,.int .i64 o.births,.slice ta9 o.ks.length tc9,.slice pa9 o.ps.length pc9,.slice la9 o.ls.length lc9,.string o.sm,.int .i64 o.le,.string o.a,.string o.b]:Value)=dv0
  try generalize (.agg #[.int .i64 o.code,.int .i64 o.wd,.int .i64 o.now,.int .i64 o.given,.int .i64 o.births,.slice ta3 o.ks.length tc3,.slice pa3 o.ps.length pc3,.slice la3 o.ls.length lc3,.string o.sm,.int .i64 o.le,.string o.a,.string o.b]:Value)=dv1
  replace E:Hid _:=E1.keep E.out (hw18.mono E.out.le);replace X11:Hid _:=CellsAt.below X11.out hw18;replace HC14:Hid _:=SAns.below HC14.out hw18;clear hw18
  as_aux_lemma=>
  obtain⟨⟨v0,_⟩,⟨v1,_⟩,⟨v2,_⟩,⟨v3,_⟩,⟨v4,_⟩,⟨v5,_⟩,⟨v6,_⟩,⟨v7,_⟩,⟨v8,_⟩,⟨v9,_⟩,⟨v10,_⟩,v11,_⟩:=c12 X11.out;go_wp2_with fail;refine(HHeld.out w18 HC14.out).mono ?_;rintro e w19 ⟨rfl,hw19⟩;have HE:Hid (Below w.heap.size w w19):=E.out.bel.trans (hw19.mono E.out.bel.size);clear v0 v1 v2 v3 v4 v5 v6 v7 v8 v9 v10 v11 hw19;go_wp2;go_ret;exact⟨rfl,HE.out⟩
 ·go_enter Tryz.func3,Tryz.ntmps3
  go_wp2_with fail;refine(szS_no a cap xs _ w w.heap.size hrow hl hs (by omega) (by omega) (by omega)).mono ?_;rintro e w1 ⟨rfl,hw1⟩;replace hw1:=hw1.symm;subst hw1;go_wp2;go_ret;exact⟨rfl,Below.refl _ _⟩
end ExactReplay
end Go.Proofs.YtpekbmegopfhfaaGreatDoor
