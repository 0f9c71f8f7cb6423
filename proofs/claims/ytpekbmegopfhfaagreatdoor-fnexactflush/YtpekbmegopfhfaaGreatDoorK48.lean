import Derived.Test.YtpekbmegopfhfaaGreatDoorK30
set_option maxRecDepth 100000
set_option maxHeartbeats 16000000
namespace Go.Proofs.YtpekbmegopfhfaaGreatDoor
open Go.ChangeShapes Go.WideShapes Go.ChangeAt Go.RowKit _root_.Go.Proofs.Tryz
theorem Cw.grown {w w':World} {b q:Nat} {ph top at_ ro:Int} {Q M:Value} (h:Cw w b ph Q M top at_ ro) (hg:w.grownBy w' (some q)) (hq:b≠q):Cw w' b ph Q M top at_ ro:=by
 obtain⟨x0,x1,x2,x3,x4,x5,x6⟩:=h;have hz:=hg.size;exact⟨hg.cell x0 (by simp;omega),hg.cell x1 (by simp;omega),hg.cell x2 (by simp;omega),hg.cell x3 (by simp;omega),hg.cell x4 (by simp;omega),hg.cell x5 (by simp;omega),by omega⟩
theorem Oo (ph top at_ ro:Int) (g h ac bc:Nat) (qs ms:List ByteArray) (w:World) (hq:Ae w w.heap.size (some ⟨g,0,none⟩) qs) (hm:Ae w w.heap.size (some ⟨h,0,none⟩) ms) (hf:GO qs ms):
 Calls prog 125 #[.agg #[XJ ph,.slice (some ⟨g,0,none⟩) qs.length ac,.slice (some ⟨h,0,none⟩) ms.length bc,XJ top,XJ at_,XJ ro]] w fun e w'=>∃x cx y cy,e=.returned (.agg #[XJ ph,.slice (some ⟨x,0,none⟩) qs.length cx,.slice (some ⟨y,0,none⟩) ms.length cy,XJ top,XJ at_,XJ ro])/\
  w'.ownsRow w.heap.size 9 1 (.slice (some ⟨x,0,none⟩) qs.length cx) qs.length (qs.map Value.string)/\w'.ownsRow w.heap.size 9 1 (.slice (some ⟨y,0,none⟩) ms.length cy) ms.length (ms.map Value.string)/\x≠y/\Xz w w':=by
 have yB:=hf.q;have yA:=hf.m;obtain⟨i0,hi,zP,zS,zN⟩:=info_parts CO;obtain⟨W,hW⟩:∃W,W=((w.alloc (.cells #[XJ ph,.slice (some ⟨g,0,none⟩) qs.length ac,.slice (some ⟨h,0,none⟩) ms.length bc,XJ top,XJ at_,XJ ro] 42)).alloc (.cells #[XK,XN,XN,XK,XK,XK] 42)).alloc (.cells #[XJ ph,.slice (some ⟨g,0,none⟩) qs.length ac,.slice (some ⟨h,0,none⟩) ms.length bc,XJ top,XJ at_,XJ ro] 42):=⟨_,rfl⟩
 have zG:Below w.heap.size w W:=by rw[hW];exact((XA).alloc (by simp) _).alloc (by simp;omega) _
 have x2:Cw W (w.heap.size+1+1) ph (.slice (some ⟨g,0,none⟩) qs.length ac) (.slice (some ⟨h,0,none⟩) ms.length bc) top at_ ro:=by
  rw[hW];exact⟨by simp[go_sem],by simp[go_sem],by simp[go_sem],by simp[go_sem],by simp[go_sem],by simp[go_sem],by simp⟩
 have x1:Cw W (w.heap.size+1) 0 XN XN 0 0 0:=by
  rw[hW];exact⟨by simp[go_sem],by simp[go_sem],by simp[go_sem],by simp[go_sem],by simp[go_sem],by simp[go_sem],by simp<;>omega⟩
 have x0:Cw W w.heap.size ph (.slice (some ⟨g,0,none⟩) qs.length ac) (.slice (some ⟨h,0,none⟩) ms.length bc) top at_ ro:=by
  rw[hW];exact⟨by simp[go_sem],by simp[go_sem],by simp[go_sem],by simp[go_sem],by simp[go_sem],by simp[go_sem],by simp<;>omega⟩
 have f2:∀o,W.frozen? ⟨w.heap.size+1+1,o,none⟩=false:=fun o=>by rw[hW];simp[go_sem]
 have f1:∀o,W.frozen? ⟨w.heap.size+1,o,none⟩=false:=fun o=>by rw[hW];simp[go_sem]
 have zZ:W.heap.size=w.heap.size+3:=by rw[hW];simp
 have HW:Hid _:=hW;clear hW;go_enter func125,ntmps125;go_wp2_with (first
  |(at_builtin;refine wpList_append_own _ rfl _ _ 22 rfl (w.heap.size+3) 9 i0 XM 1 16 underlying22 hi zP zS zN rfl (by decide) _ 0 (([]:List ByteArray).map Value.string) rfl ?d0 ⟨g,0,none⟩ qs.length ac (qs.map Value.string) rfl ?d1 ?d2 ?d3 ?d4 ?d5 ?d6 ?_)
  |go_in)
 all_goals try rw[←HW.o]
 case d0=>
  have:=World.ownsRow_lit (base:=w.heap.size+3) (e:=9) (size:=1) W #[] 0 (by omega) (by unfold maxLen;omega) rfl;rw[zZ] at this;exact this
 case d1=>simp
 case d2=>exact(hq.below (zG.alloc zG.size _)).cellsV
 case d3=>exact OY qs
 case d4=>unfold maxLen;omega
 case d5=>omega
 case d6=>simp;omega
 intro v1 w1 zE zH zW;have zI:∃x cx,v1=.slice (some ⟨x,0,none⟩) qs.length cx:=by
  have:=Ml zE zW;simpa using this
 obtain⟨x,cx,rfl⟩:=zI;try simp only[Nat.zero_add,List.map_nil,List.nil_append] at zE
 have zJ:=zH.size;have zA:(W.alloc (.cells #[] 9)).grownBy w1 (some (w.heap.size+3)):=by simpa [Value.ownBlock] using zH
 have hA:Below W.heap.size W (W.alloc (.cells #[] 9)):=XA;have y0:=(x0.below hA).grown zA (by omega);have y1:=(x1.below hA).grown zA (by omega);have y2:=(x2.below hA).grown zA (by omega)
 have e2:∀o,w1.frozen? ⟨w.heap.size+1+1,o,none⟩=false:=fun o=>(zA.frozen_far ⟨w.heap.size+1+1,o,none⟩ (by simp<;>omega) (by simp<;>omega)).trans ((hA.frozen (p:=⟨w.heap.size+1+1,o,none⟩) (by simp<;>omega)).trans (f2 o))
 have e1:∀o,w1.frozen? ⟨w.heap.size+1,o,none⟩=false:=fun o=>(zA.frozen_far ⟨w.heap.size+1,o,none⟩ (by simp<;>omega) (by simp<;>omega)).trans ((hA.frozen (p:=⟨w.heap.size+1,o,none⟩) (by simp<;>omega)).trans (f1 o));have zV:Below w.heap.size w w1:=(zG.trans (hA.mono zG.size)).grown zA (by simp;omega) (fun k hk=>by cases hk;omega);have lx:=zE.lt x rfl;simp at zJ;obtain⟨a0,a1,a2,a3,a4,a5,a6⟩:=y0
 obtain⟨b0,b1,b2,b3,b4,b5,b6⟩:=y1;obtain⟨c0,c1,c2,c3,c4,c5,c6⟩:=y2;clear x0 x1 x2 f1 f2 hA zH zA zW HW zG;obtain⟨V,hV⟩:∃V,V=w1.setCell (XL (w.heap.size+1+1) 1) (.slice (some ⟨x,0,none⟩) qs.length cx):=⟨_,rfl⟩;have zC:Below w.heap.size w V:=by rw[hV];exact zV.setCell (p:=⟨w.heap.size+1+1,1,none⟩) (by simp<;>omega) _
 have zY:V.heap.size=w1.heap.size:=by rw[hV];simp
 have zO:V.ownsRow (w.heap.size+3) 9 1 (.slice (some ⟨x,0,none⟩) qs.length cx) qs.length (qs.map Value.string):=by rw[hV];exact ownsRow_setCell_below zE (by simp) _
 have r1:Cw V (w.heap.size+1) 0 XN XN 0 0 0:=by
  rw[hV];exact⟨by simp[go_sem,b0],by simp[go_sem,b1],by simp[go_sem,b2],by simp[go_sem,b3],by simp[go_sem,b4],by simp[go_sem,b5],by simpa using b6⟩
 have r2:Cw V (w.heap.size+1+1) ph (.slice (some ⟨x,0,none⟩) qs.length cx) (.slice (some ⟨h,0,none⟩) ms.length bc) top at_ ro:=by
  rw[hV];exact⟨by simp[go_sem,c0],by simp[go_sem,c1],by simp[go_sem,c2],by simp[go_sem,c3],by simp[go_sem,c4],by simp[go_sem,c5],by simpa using c6⟩
 have k1:∀o,V.frozen? ⟨w.heap.size+1,o,none⟩=false:=fun o=>by rw[hV];simp[go_sem,e1]
 have k2:∀o,V.frozen? ⟨w.heap.size+1+1,o,none⟩=false:=fun o=>by rw[hV];simp[go_sem,e2]
 have HV:Hid _:=hV;clear hV;go_wp2_with (first
  |(at_builtin;refine wpList_append_own _ rfl _ _ 22 rfl w1.heap.size 9 i0 XM 1 16 underlying22 hi zP zS zN rfl (by decide) _ 0 (([]:List ByteArray).map Value.string) rfl ?e0 ⟨h,0,none⟩ ms.length bc (ms.map Value.string) rfl ?e1 ?e2 ?e3 ?e4 ?e5 ?e6 ?_)
  |go_in)
 all_goals try rw[←HV.o]
 case e0=>
  have:=World.ownsRow_lit (base:=w1.heap.size) (e:=9) (size:=1) V #[] 0 (by omega) (by unfold maxLen;omega) rfl;rw[zY] at this;exact this
 case e1=>simp
 case e2=>exact(hm.below (zC.alloc zC.size _)).cellsV
 case e3=>exact OY ms
 case e4=>unfold maxLen;omega
 case e5=>omega
 case e6=>simp;omega
 intro v2 w2 zF zK zT;have zI:∃y cy,v2=.slice (some ⟨y,0,none⟩) ms.length cy:=by
  have:=Ml zF zT;simpa using this
 obtain⟨y,cy,rfl⟩:=zI;try simp only[Nat.zero_add,List.map_nil,List.nil_append] at zF
 have zB:(V.alloc (.cells #[] 9)).grownBy w2 (some w1.heap.size):=by simpa [Value.ownBlock] using zK
 have hA:Below V.heap.size V (V.alloc (.cells #[] 9)):=XA;have s1:=(r1.below hA).grown zB (by omega);have s2:=(r2.below hA).grown zB (by omega);have t2:∀o,w2.frozen? ⟨w.heap.size+1+1,o,none⟩=false:=fun o=>(zB.frozen_far ⟨w.heap.size+1+1,o,none⟩ (by simp<;>omega) (by simp<;>omega)).trans ((hA.frozen (p:=⟨w.heap.size+1+1,o,none⟩) (by simp<;>omega)).trans (k2 o))
 have t1:∀o,w2.frozen? ⟨w.heap.size+1,o,none⟩=false:=fun o=>(zB.frozen_far ⟨w.heap.size+1,o,none⟩ (by simp<;>omega) (by simp<;>omega)).trans ((hA.frozen (p:=⟨w.heap.size+1,o,none⟩) (by simp<;>omega)).trans (k1 o));have zM:Below w.heap.size w w2:=(zC.trans (hA.mono zC.size)).grown zB (by simp;omega) (fun k hk=>by cases hk;omega);have ly:=zF.lt y rfl
 have zU:w2.ownsRow (w.heap.size+3) 9 1 (.slice (some ⟨x,0,none⟩) qs.length cx) qs.length (qs.map Value.string):=(zO.alloc _).kept zB (.inr (by simp[Value.ownBlock];omega));have zR:=zF.mono (show w.heap.size+3<=w1.heap.size by omega);have zX:x≠y:=by omega
 have HO:Hid _:=And.intro zU (And.intro zR (And.intro zX zM));obtain⟨m0,m1,m2,m3,m4,m5,m6⟩:=s1;obtain⟨n0,n1,n2,n3,n4,n5,n6⟩:=s2;clear a0 a1 a2 a3 a4 a5 a6 b0 b1 b2 b3 b4 b5 b6 c0 c1 c2 c3 c4 c5 c6 zU zR zF zK zB hA r1 r2 k1 k2 zO zE zC zV zM HV e1 e2 zT;go_wp2
 refine bodyPost_ret (v:=.agg #[XJ ph,.slice (some ⟨x,0,none⟩) qs.length cx,.slice (some ⟨y,0,none⟩) ms.length cy,XJ top,XJ at_,XJ ro]) (by simp[results,results125,go_sem,m0,m1,m2,m3,m4,m5]) rfl ⟨x,cx,y,cy,rfl,?_,?_,HO.o.2.2.1,?_⟩
 ·refine World.ownsRow.mono ?_ (show w.heap.size<=w.heap.size+3 by omega)
  iterate 7 (refine ownsRow_setCell_below ?_ (by simp) _)
  exact HO.o.1
 ·refine World.ownsRow.mono ?_ (show w.heap.size<=w.heap.size+3 by omega)
  iterate 7 (refine ownsRow_setCell_below ?_ (by simp) _)
  exact HO.o.2.1
 ·iterate 7 (refine Below.setCell ?_ (by simp<;>omega) _)
  exact HO.o.2.2.2
end Go.Proofs.YtpekbmegopfhfaaGreatDoor
