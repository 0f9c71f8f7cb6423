import Derived.Test.YtpekbmegopfhfaaGreatDoorK44
set_option maxRecDepth 100000
set_option maxHeartbeats 16000000
namespace Go.Proofs.YtpekbmegopfhfaaGreatDoor
open Go.ChangeShapes Go.WideShapes Go.ChangeAt Go.RowKit _root_.Go.Proofs.Tryz
theorem Sk (a b:Option Addr) (c d:Nat) (ss tt:List ByteArray) (w:World) (hr:Ae w w.heap.size a ss) (hq:Ae w w.heap.size b tt) (hl:ss.length<=1048576) (zE:tt.length<=1048576)
 (hs:∀s∈ss,s.size<=1048576) (zC:∀s∈tt,s.size<=1048576) (hd:tt.length<=d):
 Calls prog 81 #[.agg #[.slice a ss.length c,.slice b tt.length d]] w fun e w'=>∃v,e=.returned (.agg #[v,XN])/\
  w'.ownsRow w.heap.size 9 1 v (AN ss tt tt.length).length ((AN ss tt tt.length).map Value.string)/\Xz w w':=by
 have zB:Below w.heap.size w ((w.alloc (.cells #[.slice a ss.length c,.slice b tt.length d] 40)).alloc (.cells #[XN,XN] 40)):=(XA).alloc (by simp) _;go_enter func81,ntmps81;go_wp2_with fail;refine(Ko a b c d ss tt _ _ (hr.below' zB) (hq.below' zB) hl zE hs zC hd).mono ?_;rintro e w1 ⟨v,rfl,ho,zA⟩;have zF:=zB.trans (zA.mono (by simp;omega))
 have r0:w1.cell? (XL (w.heap.size+1) 0)=some XN:=by rw[zA.cell (p:=⟨w.heap.size+1,0,none⟩) (by simp)];simp
 have r1:w1.cell? (XL (w.heap.size+1) 1)=some XN:=by rw[zA.cell (p:=⟨w.heap.size+1,1,none⟩) (by simp)];simp
 have f0:∀o,w1.frozen? ⟨w.heap.size+1,o,none⟩=false:=fun o=>by rw[zA.frozen (p:=⟨w.heap.size+1,o,none⟩) (by simp)];simp[go_sem]
 have hv:=Joins.ownsRow_forms ho;have R:=Dp zF (ho.mono (by simp));have HR:Hid _:=R;clear R ho zA hr hq hs zC;rcases hv with⟨rfl,hv⟩|⟨g,cap,rfl⟩
 ·go_wp2
  exact bodyPost_ret (v:=.agg #[XN,XN]) (by simp[results,results81,go_sem,r0,r1]) rfl ⟨_,rfl,HR.o.1,HR.o.2⟩
 ·go_wp2
  exact bodyPost_ret (v:=.agg #[.slice (some ⟨g,0,none⟩) (AN ss tt tt.length).length cap,XN]) (by simp[results,results81,go_sem,r0,r1]) rfl ⟨_,rfl,HR.o.1,HR.o.2⟩
end Go.Proofs.YtpekbmegopfhfaaGreatDoor
