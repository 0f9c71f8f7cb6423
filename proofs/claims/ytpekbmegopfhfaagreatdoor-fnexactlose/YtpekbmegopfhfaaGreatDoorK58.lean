import Derived.Test.YtpekbmegopfhfaaGreatDoorK44
import Derived.Test.YtpekbmegopfhfaaGreatDoorK46
set_option maxRecDepth 100000
set_option maxHeartbeats 16000000
namespace Go.Proofs.YtpekbmegopfhfaaGreatDoor
open Go.ChangeShapes Go.WideShapes Go.ChangeAt Go.RowKit _root_.Go.Proofs.Tryz
theorem Qt (g h c d:Nat) (ss tt:List ByteArray) (keep:Int) (w:World) (hr:Ae w w.heap.size (some ⟨g,0,none⟩) ss) (hq:Ae w w.heap.size (some ⟨h,0,none⟩) tt) (hl:ss.length<=1048576) (yG:tt.length<=1048576)
 (hs:∀s∈ss,s.size<=1048576) (zZ:∀s∈tt,s.size<=1048576) (hd:tt.length<=d):
 Calls prog 76 #[.agg #[.slice (some ⟨g,0,none⟩) ss.length c,.slice (some ⟨h,0,none⟩) tt.length d],XJ keep] w fun e w'=>∃v,e=.returned (.agg #[v,XN])/\
  w'.ownsRow w.heap.size 9 1 v (AN ss tt keep).length ((AN ss tt keep).map Value.string)/\Xz w w':=by
 obtain⟨i0,hi,zS,zP,zU⟩:=info_parts CO;have yA:Below w.heap.size w ((w.alloc (.cells #[.slice (some ⟨g,0,none⟩) ss.length c,.slice (some ⟨h,0,none⟩) tt.length d] 40)).alloc (.cells #[XN,XN] 40)):=(XA).alloc (by simp) _;go_enter func76,ntmps76;go_wp2_with fail;refine(Ew _ _ c d ss tt _ _ (XB) (hr.below' yA) (hq.below' yA) hl yG hs zZ).mono ?_;rintro e w1 ⟨rfl,zH⟩
 have yD:=yA.trans (zH.mono (by simp;omega));have yC:=zH.size;simp at yC;have c0:w1.cell? (XL (w.heap.size) 0)=some (.slice (some ⟨g,0,none⟩) ss.length c):=by rw[zH.cell (p:=⟨w.heap.size,0,none⟩) (by simp;omega)];simp
 have c1:w1.cell? (XL (w.heap.size) 1)=some (.slice (some ⟨h,0,none⟩) tt.length d):=by rw[zH.cell (p:=⟨w.heap.size,1,none⟩) (by simp;omega)];simp
 have r0:w1.cell? (XL (w.heap.size+1) 0)=some XN:=by rw[zH.cell (p:=⟨w.heap.size+1,0,none⟩) (by simp)];simp
 have r1:w1.cell? (XL (w.heap.size+1) 1)=some XN:=by rw[zH.cell (p:=⟨w.heap.size+1,1,none⟩) (by simp)];simp
 have f0:∀o,w1.frozen? ⟨w.heap.size+1,o,none⟩=false:=fun o=>by rw[zH.frozen (p:=⟨w.heap.size+1,o,none⟩) (by simp)];simp[go_sem]
 clear zH;cases hok:Ci ss tt with
 |false=>
  go_wp2;refine bodyPost_ret (v:=.agg #[XN,XN]) (by simp[results,results76,go_sem,r0,r1]) rfl ⟨XN,rfl,?_,?_⟩
  ·simp only[AN,hok];exact World.ownsRow_nil _ _ _ _
  ·exact(yD.setCell (p:=⟨w.heap.size+1,0,none⟩) (by simp) _).setCell (p:=⟨w.heap.size+1,1,none⟩) (by simp) _
 |true=>
  have zY:Below w.heap.size w (w1.alloc (.cells #[] 9)):=yD.alloc yD.size _;have a0:(w1.alloc (.cells #[] 9)).cell? (XL (w.heap.size) 0)=some (.slice (some ⟨g,0,none⟩) ss.length c):=by rw[((Below.refl w1.heap.size w1).alloc (XB) _).cell (p:=⟨w.heap.size,0,none⟩) (by simp;omega)];exact c0
  have a1:(w1.alloc (.cells #[] 9)).cell? (XL (w.heap.size) 1)=some (.slice (some ⟨h,0,none⟩) tt.length d):=by rw[((Below.refl w1.heap.size w1).alloc (XB) _).cell (p:=⟨w.heap.size,1,none⟩) (by simp;omega)];exact c1
  have b0:(w1.alloc (.cells #[] 9)).cell? (XL (w.heap.size+1) 0)=some XN:=by rw[((Below.refl w1.heap.size w1).alloc (XB) _).cell (p:=⟨w.heap.size+1,0,none⟩) (by simp;omega)];exact r0
  have b1:(w1.alloc (.cells #[] 9)).cell? (XL (w.heap.size+1) 1)=some XN:=by rw[((Below.refl w1.heap.size w1).alloc (XB) _).cell (p:=⟨w.heap.size+1,1,none⟩) (by simp;omega)];exact r1
  have g0:∀o,(w1.alloc (.cells #[] 9)).frozen? ⟨w.heap.size+1,o,none⟩=false:=fun o=>by rw[((Below.refl w1.heap.size w1).alloc (XB) _).frozen (p:=⟨w.heap.size+1,o,none⟩) (by simp;omega)];exact f0 o
  have zR:=(hr.below zY).cells;have zT:(w1.alloc (.cells #[] 9)).ownsRow (w.heap.size+2) 9 1 (.slice (some ⟨w1.heap.size,0,none⟩) 0 0) 0 (([]:List ByteArray).map Value.string):=World.ownsRow_lit w1 #[] 0 (by omega) (by unfold maxLen;omega) rfl;by_cases h1:(tt.length:Int)<keep
  ·have yE:¬keep<0:=by omega
   have zO:AN ss tt keep=ss++tt.take (tt.length):=by simp only[AN,hok,if_true];rw[show(min (max keep 0) (tt.length:Int)).toNat=tt.length from by omega]
   have zM:(tt.take (tt.length)).length=tt.length:=by rw[List.length_take];omega
   have zJ:Ae w w.heap.size (some ⟨h,0,none⟩) (tt.take (tt.length)):=hq.take (tt.length);have HA:Hid _:=And.intro zR zT;have zW:Hid _:=zO;have zI:Hid _:=zM;clear zR zT zO zM hr hq hs zZ r0 r1 f0;go_wp2
   go_region_law (first
    |(refine BW _ rfl (.tmp 19) (.tmp 21) 22 rfl (w.heap.size+2) 9 i0 XM 16 underlying22 hi zS zP zU rfl w1.heap.size 0 0 [] rfl (by exact HA.o.2) ⟨g,0,none⟩ ss.length c ss rfl rfl (by exact HA.o.1) (by unfold maxLen;omega) (by omega) (by simp;omega) ?_;intro k3 zE w3 zC zA;simp only[Nat.zero_add,List.nil_append] at zC;have zN:=zA.size;have l1:=zA.cell (a:=⟨w.heap.size,1,none⟩) (by exact a1) (by simp;omega);have q0:=zA.cell (a:=⟨w.heap.size+1,0,none⟩) (by exact b0) (by simp;omega);have q1:=zA.cell (a:=⟨w.heap.size+1,1,none⟩) (by exact b1) (by simp;omega);have qf:∀o,w3.frozen? ⟨w.heap.size+1,o,none⟩=false:=fun o=>(zA.frozen_far ⟨w.heap.size+1,o,none⟩ (by simp;omega) (by simp;omega)).trans (g0 o);have zF:=zY.drew.grown zA (by simp;omega) (fun k hk=>by cases hk;omega);have zV:=zF.size;have yB:=(zC.lt k3 rfl).1)
    |(refine BW _ rfl (.tmp 22) (.tmp 26) 22 rfl (w.heap.size+2) 9 i0 XM 16 underlying22 hi zS zP zU rfl k3 ss.length zE ss rfl zC ⟨h,0,none⟩ (tt.length) d (tt.take (tt.length)) rfl zI.o (zJ.below zF).cells (by unfold maxLen;omega) (by omega) (by simp at zN;omega) ?_;intro k4 zG w4 zK zB;have yF:=zB.size;have p0:=zB.cell (a:=⟨w.heap.size+1,0,none⟩) q0 (by simp;omega);have p1:=zB.cell (a:=⟨w.heap.size+1,1,none⟩) q1 (by simp;omega);have pf:∀o,w4.frozen? ⟨w.heap.size+1,o,none⟩=false:=fun o=>(zB.frozen_far ⟨w.heap.size+1,o,none⟩ (by simp at zN;simp;omega) (by simp;omega)).trans (qf o);have zX:=zF.grown zB (by omega) (fun k hk=>by cases hk;omega)))
   all_goals
    have R:=Dp (L:=ss++tt.take (tt.length)) zX (by rw[List.length_append,zI.o];exact zK);have HR:Hid _:=R;clear R zC zK zA zB zJ HA;go_wp2;refine bodyPost_ret (v:=.agg #[.slice (some ⟨k4,0,none⟩) (ss.length+(tt.length)) zG,XN]) (by simp[results,results76,go_sem,p0,p1]) rfl ⟨_,rfl,?_,HR.o.2⟩;rw[zW.o];exact HR.o.1
  ·by_cases h2:keep<0
   ·have yE:¬(tt.length:Int)<0:=by omega
    have zO:AN ss tt keep=ss++tt.take (0):=by simp only[AN,hok,if_true];rw[show(min (max keep 0) (tt.length:Int)).toNat=0 from by omega]
    have zM:(tt.take (0)).length=0:=by rw[List.length_take];omega
    have zJ:Ae w w.heap.size (some ⟨h,0,none⟩) (tt.take (0)):=hq.take (0);have HA:Hid _:=And.intro zR zT;have zW:Hid _:=zO;have zI:Hid _:=zM;clear zR zT zO zM hr hq hs zZ r0 r1 f0;go_wp2
    go_region_law (first
     |(refine BW _ rfl (.tmp 19) (.tmp 21) 22 rfl (w.heap.size+2) 9 i0 XM 16 underlying22 hi zS zP zU rfl w1.heap.size 0 0 [] rfl (by exact HA.o.2) ⟨g,0,none⟩ ss.length c ss rfl rfl (by exact HA.o.1) (by unfold maxLen;omega) (by omega) (by simp;omega) ?_;intro k3 zE w3 zC zA;simp only[Nat.zero_add,List.nil_append] at zC;have zN:=zA.size;have l1:=zA.cell (a:=⟨w.heap.size,1,none⟩) (by exact a1) (by simp;omega);have q0:=zA.cell (a:=⟨w.heap.size+1,0,none⟩) (by exact b0) (by simp;omega);have q1:=zA.cell (a:=⟨w.heap.size+1,1,none⟩) (by exact b1) (by simp;omega);have qf:∀o,w3.frozen? ⟨w.heap.size+1,o,none⟩=false:=fun o=>(zA.frozen_far ⟨w.heap.size+1,o,none⟩ (by simp;omega) (by simp;omega)).trans (g0 o);have zF:=zY.drew.grown zA (by simp;omega) (fun k hk=>by cases hk;omega);have zV:=zF.size;have yB:=(zC.lt k3 rfl).1)
     |(refine BW _ rfl (.tmp 22) (.tmp 26) 22 rfl (w.heap.size+2) 9 i0 XM 16 underlying22 hi zS zP zU rfl k3 ss.length zE ss rfl zC ⟨h,0,none⟩ (0) d (tt.take (0)) rfl zI.o (zJ.below zF).cells (by unfold maxLen;omega) (by omega) (by simp at zN;omega) ?_;intro k4 zG w4 zK zB;have yF:=zB.size;have p0:=zB.cell (a:=⟨w.heap.size+1,0,none⟩) q0 (by simp;omega);have p1:=zB.cell (a:=⟨w.heap.size+1,1,none⟩) q1 (by simp;omega);have pf:∀o,w4.frozen? ⟨w.heap.size+1,o,none⟩=false:=fun o=>(zB.frozen_far ⟨w.heap.size+1,o,none⟩ (by simp at zN;simp;omega) (by simp;omega)).trans (qf o);have zX:=zF.grown zB (by omega) (fun k hk=>by cases hk;omega)))
    all_goals
     have R:=Dp (L:=ss++tt.take (0)) zX (by rw[List.length_append,zI.o];exact zK);have HR:Hid _:=R;clear R zC zK zA zB zJ HA;go_wp2;refine bodyPost_ret (v:=.agg #[.slice (some ⟨k4,0,none⟩) (ss.length+(0)) zG,XN]) (by simp[results,results76,go_sem,p0,p1]) rfl ⟨_,rfl,?_,HR.o.2⟩;rw[zW.o];exact HR.o.1
   ·have yE:0<=keep:=by omega
    have yH:keep<=tt.length:=by omega
    have yI:keep.toNat<=tt.length:=by omega
    have yB:keep<=d:=by omega
    have zO:AN ss tt keep=ss++tt.take (keep.toNat):=by simp only[AN,hok,if_true];rw[show(min (max keep 0) (tt.length:Int)).toNat=keep.toNat from by omega]
    have zM:(tt.take (keep.toNat)).length=keep.toNat:=by rw[List.length_take];omega
    have zJ:Ae w w.heap.size (some ⟨h,0,none⟩) (tt.take (keep.toNat)):=hq.take (keep.toNat);have HA:Hid _:=And.intro zR zT;have zW:Hid _:=zO;have zI:Hid _:=zM;clear zR zT zO zM hr hq hs zZ r0 r1 f0;go_wp2
    go_region_law (first
     |(refine BW _ rfl (.tmp 19) (.tmp 21) 22 rfl (w.heap.size+2) 9 i0 XM 16 underlying22 hi zS zP zU rfl w1.heap.size 0 0 [] rfl (by exact HA.o.2) ⟨g,0,none⟩ ss.length c ss rfl rfl (by exact HA.o.1) (by unfold maxLen;omega) (by omega) (by simp;omega) ?_;intro k3 zE w3 zC zA;simp only[Nat.zero_add,List.nil_append] at zC;have zN:=zA.size;have l1:=zA.cell (a:=⟨w.heap.size,1,none⟩) (by exact a1) (by simp;omega);have q0:=zA.cell (a:=⟨w.heap.size+1,0,none⟩) (by exact b0) (by simp;omega);have q1:=zA.cell (a:=⟨w.heap.size+1,1,none⟩) (by exact b1) (by simp;omega);have qf:∀o,w3.frozen? ⟨w.heap.size+1,o,none⟩=false:=fun o=>(zA.frozen_far ⟨w.heap.size+1,o,none⟩ (by simp;omega) (by simp;omega)).trans (g0 o);have zF:=zY.drew.grown zA (by simp;omega) (fun k hk=>by cases hk;omega);have zV:=zF.size;have yB:=(zC.lt k3 rfl).1)
     |(refine BW _ rfl (.tmp 22) (.tmp 26) 22 rfl (w.heap.size+2) 9 i0 XM 16 underlying22 hi zS zP zU rfl k3 ss.length zE ss rfl zC ⟨h,0,none⟩ (keep.toNat) d (tt.take (keep.toNat)) rfl zI.o (zJ.below zF).cells (by unfold maxLen;omega) (by omega) (by simp at zN;omega) ?_;intro k4 zG w4 zK zB;have yF:=zB.size;have p0:=zB.cell (a:=⟨w.heap.size+1,0,none⟩) q0 (by simp;omega);have p1:=zB.cell (a:=⟨w.heap.size+1,1,none⟩) q1 (by simp;omega);have pf:∀o,w4.frozen? ⟨w.heap.size+1,o,none⟩=false:=fun o=>(zB.frozen_far ⟨w.heap.size+1,o,none⟩ (by simp at zN;simp;omega) (by simp;omega)).trans (qf o);have zX:=zF.grown zB (by omega) (fun k hk=>by cases hk;omega)))
    all_goals
     have R:=Dp (L:=ss++tt.take (keep.toNat)) zX (by rw[List.length_append,zI.o];exact zK);have HR:Hid _:=R;clear R zC zK zA zB zJ HA;go_wp2;refine bodyPost_ret (v:=.agg #[.slice (some ⟨k4,0,none⟩) (ss.length+(keep.toNat)) zG,XN]) (by simp[results,results76,go_sem,p0,p1]) rfl ⟨_,rfl,?_,HR.o.2⟩;rw[zW.o];exact HR.o.1
end Go.Proofs.YtpekbmegopfhfaaGreatDoor
