import Derived.Test.YtpekbmegopfhfaaGreatDoorY27
import Derived.Test.YtpekbmegopfhfaaGreatDoorY36
set_option maxRecDepth 100000
set_option maxHeartbeats 16000000
namespace Go.Proofs.YtpekbmegopfhfaaGreatDoor
open Go.ChangeShapes Go.WideShapes Go.ChangeAt Go.RowKit _root_.Go.Proofs.Tryz
namespace ExactOpen
theorem walk (n0 n1:Int) (a b:Option Addr) (c d:Nat) (ss tt:List ByteArray) (w:World) (hE:Env w) (hr:SRow w w.heap.size a ss) (hq:SRow w w.heap.size b tt) (hl:ss.length<=maxLen) (hs:∀s∈ss,s.size<=maxLen) (hl':tt.length<=maxLen) (hs':∀s∈tt,s.size<=maxLen):
 Calls prog 4 #[.int .i64 n0,.int .i64 n1,.agg #[.slice a ss.length c,.slice b tt.length d]] w fun e w'=>e=.returned (.bool true)/\Below w.heap.size w w':=by
 refine walk_gen (D:=Int×Vd) (fun o=>LFit ss tt/\OTo n0 n1 ss tt o.1 o.2) (fun o=>o.1) (LRx ss tt) (LOx ss tt) (fun _ _ _ _ _=>True) (fun o=>VRa o.2) (fun o=>VOa o.2 o.2) (fun o lo N X cs K=>K=1+cntV o.2/\VOa o.2 (markV 1 o.2) lo N X cs) (LFit ss tt) [.slice a ss.length c,.slice b tt.length d] n0 n1 w rfl (fun hf=>kndLx ss tt hf) ?_ ?_ ?_ ?_ ?_ ?_ ?_
 ·exact fun o ho=>kndVa o.2 (ho.2.fit ho.1)
 ·exact fun o ho=>heldVa o.2 (ho.2.fit ho.1)
 ·rintro⟨c,v⟩ ⟨c',v'⟩ h h'
  obtain⟨rfl,rfl⟩:=h.2.det h'.2;rfl
 ·exact fun X hX=>szLog_x a b c d ss tt w X hr hq hl hs hl' hs' hX
 ·exact fun hf X hX=>toLog_x a b c d ss tt w X hr hq hf hX
 ·rintro hf X cs hX ⟨g,k,c,d,rfl,h1,h2⟩
  refine(sOpen_any n0 n1 _ _ _ _ ss tt X h1 h2 (fun e=>by cases e) (fun e=>by cases e) hf.s hf.t hf.ss hf.tt).mono ?_;rintro e X' ⟨c,v,S,U,T,P,L,Q,M,rs,ho,rfl,ha,hb⟩;exact⟨(c,v),vCs v S U T P L Q M,rfl,⟨hf,ho⟩,ha.vra,hb⟩
 ·rintro hf X cs hX ⟨g,k,c,d,rfl,h1,h2⟩
  refine(iOpen_any n0 n1 _ _ _ _ ss tt X h1 h2 hf.s hf.t hf.ss hf.tt (hE.below hX)).mono ?_;rintro e X' ⟨c,v,S,U,T,P,L,Q,M,rs,ho,rfl,ha,hb⟩;exact⟨(c,v),vCs v S U T P L Q M,rfl,⟨hf,ho⟩,ha.voa hb.size,hb⟩
end ExactOpen
end Go.Proofs.YtpekbmegopfhfaaGreatDoor
