import Derived.Test.YtpekbmegopfhfaaGreatDoorK45
import Derived.Test.YtpekbmegopfhfaaGreatDoorK46
set_option maxRecDepth 100000
set_option maxHeartbeats 16000000
namespace Go.Proofs.YtpekbmegopfhfaaGreatDoor
open Go.ChangeShapes Go.WideShapes Go.ChangeAt Go.RowKit _root_.Go.Proofs.Tryz
theorem Sl (g h c d:Nat) (ss tt:List ByteArray) (w:World) (hr:Ae w w.heap.size (some ⟨g,0,none⟩) ss) (hq:Ae w w.heap.size (some ⟨h,0,none⟩) tt) (hl:ss.length<=1048576) (yA:tt.length<=1048576)
 (hs:∀s∈ss,s.size<=1048576) (zW:∀s∈tt,s.size<=1048576):
 Calls prog 79 #[.agg #[.slice (some ⟨g,0,none⟩) ss.length c,.slice (some ⟨h,0,none⟩) tt.length d]] w fun e w'=>∃v,e=.returned (.agg #[v,XN])/\
  w'.ownsRow w.heap.size 9 1 v (AN ss tt tt.length).length ((AN ss tt tt.length).map Value.string)/\Xz w w':=by
 obtain⟨i0,hi,zP,zM,zU⟩:=info_parts CO;have zF:Below w.heap.size w ((w.alloc (.cells #[.slice (some ⟨g,0,none⟩) ss.length c,.slice (some ⟨h,0,none⟩) tt.length d] 40)).alloc (.cells #[XN,XN] 40)):=(XA).alloc (by simp) _;go_enter func79,ntmps79;go_wp2_with fail;refine(Ew _ _ c d ss tt _ _ (XB) (hr.below' zF) (hq.below' zF) hl yA hs zW).mono ?_;rintro e w1 ⟨rfl,zA⟩
 have zJ:=zF.trans (zA.mono (by simp;omega));have zI:=zA.size;simp at zI;have c0:w1.cell? (XL (w.heap.size) 0)=some (.slice (some ⟨g,0,none⟩) ss.length c):=by rw[zA.cell (p:=⟨w.heap.size,0,none⟩) (by simp;omega)];simp
 have c1:w1.cell? (XL (w.heap.size) 1)=some (.slice (some ⟨h,0,none⟩) tt.length d):=by rw[zA.cell (p:=⟨w.heap.size,1,none⟩) (by simp;omega)];simp
 have r0:w1.cell? (XL (w.heap.size+1) 0)=some XN:=by rw[zA.cell (p:=⟨w.heap.size+1,0,none⟩) (by simp)];simp
 have r1:w1.cell? (XL (w.heap.size+1) 1)=some XN:=by rw[zA.cell (p:=⟨w.heap.size+1,1,none⟩) (by simp)];simp
 have f0:∀o,w1.frozen? ⟨w.heap.size+1,o,none⟩=false:=fun o=>by rw[zA.frozen (p:=⟨w.heap.size+1,o,none⟩) (by simp)];simp[go_sem]
 clear zA;cases hok:Ci ss tt with
 |false=>
  go_wp2;refine bodyPost_ret (v:=.agg #[XN,XN]) (by simp[results,results79,go_sem,r0,r1]) rfl ⟨XN,rfl,?_,?_⟩
  ·simp only[AN,hok];exact World.ownsRow_nil _ _ _ _
  ·exact(zJ.setCell (p:=⟨w.heap.size+1,0,none⟩) (by simp) _).setCell (p:=⟨w.heap.size+1,1,none⟩) (by simp) _
 |true=>
  have zT:Below w.heap.size w (w1.alloc (.cells #[] 9)):=zJ.alloc zJ.size _;have a0:(w1.alloc (.cells #[] 9)).cell? (XL (w.heap.size) 0)=some (.slice (some ⟨g,0,none⟩) ss.length c):=by rw[((Below.refl w1.heap.size w1).alloc (XB) _).cell (p:=⟨w.heap.size,0,none⟩) (by simp;omega)];exact c0
  have a1:(w1.alloc (.cells #[] 9)).cell? (XL (w.heap.size) 1)=some (.slice (some ⟨h,0,none⟩) tt.length d):=by rw[((Below.refl w1.heap.size w1).alloc (XB) _).cell (p:=⟨w.heap.size,1,none⟩) (by simp;omega)];exact c1
  have b0:(w1.alloc (.cells #[] 9)).cell? (XL (w.heap.size+1) 0)=some XN:=by rw[((Below.refl w1.heap.size w1).alloc (XB) _).cell (p:=⟨w.heap.size+1,0,none⟩) (by simp;omega)];exact r0
  have b1:(w1.alloc (.cells #[] 9)).cell? (XL (w.heap.size+1) 1)=some XN:=by rw[((Below.refl w1.heap.size w1).alloc (XB) _).cell (p:=⟨w.heap.size+1,1,none⟩) (by simp;omega)];exact r1
  have g0:∀o,(w1.alloc (.cells #[] 9)).frozen? ⟨w.heap.size+1,o,none⟩=false:=fun o=>by rw[((Below.refl w1.heap.size w1).alloc (XB) _).frozen (p:=⟨w.heap.size+1,o,none⟩) (by simp;omega)];exact f0 o
  have zN:=(hr.below zT).cells;have zS:(w1.alloc (.cells #[] 9)).ownsRow (w.heap.size+2) 9 1 (.slice (some ⟨w1.heap.size,0,none⟩) 0 0) 0 (([]:List ByteArray).map Value.string):=World.ownsRow_lit w1 #[] 0 (by omega) (by unfold maxLen;omega) rfl;have zV:AN ss tt tt.length=ss++tt:=by simp[AN,hok]
  have HA:Hid _:=And.intro zN zS;have zY:Hid _:=zV;clear zN zS zV hr hs zW r0 r1 f0;go_wp2
  go_region_law (first
   |(refine BW _ rfl (.tmp 7) (.tmp 9) 22 rfl (w.heap.size+2) 9 i0 XM 16 underlying22 hi zP zM zU rfl w1.heap.size 0 0 [] rfl (by exact HA.o.2) ⟨g,0,none⟩ ss.length c ss rfl rfl (by exact HA.o.1) (by unfold maxLen;omega) (by omega) (by simp;omega) ?_;intro k3 zG w3 zE zB;simp only[Nat.zero_add,List.nil_append] at zE;have zR:=zB.size;have l1:=zB.cell (a:=⟨w.heap.size,1,none⟩) (by exact a1) (by simp;omega);have q0:=zB.cell (a:=⟨w.heap.size+1,0,none⟩) (by exact b0) (by simp;omega);have q1:=zB.cell (a:=⟨w.heap.size+1,1,none⟩) (by exact b1) (by simp;omega);have qf:∀o,w3.frozen? ⟨w.heap.size+1,o,none⟩=false:=fun o=>(zB.frozen_far ⟨w.heap.size+1,o,none⟩ (by simp;omega) (by simp;omega)).trans (g0 o);have zH:=zT.drew.grown zB (by simp;omega) (fun k hk=>by cases hk;omega);have zX:=zH.size;have yB:=(zE.lt k3 rfl).1)
   |(refine BW _ rfl (.tmp 10) (.tmp 12) 22 rfl (w.heap.size+2) 9 i0 XM 16 underlying22 hi zP zM zU rfl k3 ss.length zG ss rfl zE ⟨h,0,none⟩ tt.length d tt rfl rfl (hq.below zH).cells (by unfold maxLen;omega) (by omega) (by simp at zR;omega) ?_;intro k4 zK w4 zO zC;have yC:=zC.size;have p0:=zC.cell (a:=⟨w.heap.size+1,0,none⟩) q0 (by simp;omega);have p1:=zC.cell (a:=⟨w.heap.size+1,1,none⟩) q1 (by simp;omega);have pf:∀o,w4.frozen? ⟨w.heap.size+1,o,none⟩=false:=fun o=>(zC.frozen_far ⟨w.heap.size+1,o,none⟩ (by simp at zR;simp;omega) (by simp;omega)).trans (qf o);have zZ:=zH.grown zC (by omega) (fun k hk=>by cases hk;omega)))
  all_goals
   have R:=Dp (L:=ss++tt) zZ (by rw[List.length_append];exact zO);have HR:Hid _:=R;clear R zE zO zB zC hq HA;go_wp2;refine bodyPost_ret (v:=.agg #[.slice (some ⟨k4,0,none⟩) (ss.length+tt.length) zK,XN]) (by simp[results,results79,go_sem,p0,p1]) rfl ⟨_,rfl,?_,HR.o.2⟩;rw[zY.o];exact HR.o.1
end Go.Proofs.YtpekbmegopfhfaaGreatDoor
