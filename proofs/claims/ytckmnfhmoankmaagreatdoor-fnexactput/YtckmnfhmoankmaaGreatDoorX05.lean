import Derived.Test.YtckmnfhmoankmaaGreatDoorX01
import Derived.Test.YtckmnfhmoankmaaGreatDoorRows
import Derived.OpenShut
import Derived.ShutString
import Derived.Lib.SmallJoins
set_option maxRecDepth 100000
set_option maxHeartbeats 16000000
namespace Go.Proofs.YtckmnfhmoankmaaGreatDoor
open Go.ChangeShapes Go.WideShapes Go.ChangeAt Go.RowKit _root_.Go.Proofs.Tryz
theorem FP:prog.cellsOf 9=1:=by kernel_rfl
theorem own:ownKnob prog.godebug=none:=by kernel_rfl
theorem laidOut:laidOutB prog=true:=by kernel_rfl
theorem Fq{H:Type}{p:TypeId×Value->H}{W:Zh}{base:Nat}{spare:Nat->Bool}{held:Bool}{m:Nat}{v:Value}{y:DataW H×List MemPlace}
 (h:DataW.trod p prog W base spare held m 22 [v]=some y):
 ∃a k c,v=.slice a (List.length c) k/\Ad W W.heap.size a c/\c.length<=maxLen/\∀s∈c,ByteArray.size s<=maxLen:=by
 rcases open_strings underlying22 underlying9 FP h with⟨e,_⟩|⟨a,len,k,c,e,_,w,x,u,_,d,q⟩
 ·simp at e;subst e;exact⟨none,0,[],rfl,.inl rfl,by simp[maxLen],fun s f=>by cases f⟩
 ·simp at e;subst e;have hlen:len<=c.length:=by rw[u];split<;>omega
  have n:(c.take len).length=len:=by simp;omega
  refine⟨some a,k,c.take len,by rw[n],?_,by rw[n];omega,fun s f=>q s (List.mem_of_mem_take f)⟩;by_cases h0:len=0
  ·exact .inl (by simp[h0])
  ·obtain⟨b,l,spot⟩:=a;have g:spot=none:=by simpa [Addr.add]using World.cell?_spot (d 0 (by omega))
   subst g;have o:∀j,j<c.length->W.cell? ⟨b,l+j,none⟩=some (.string (c.getD j ByteArray.empty)):=fun j t=>by rw[←Go.WideShapes.add_plain];exact d j t
   refine .inr ⟨b,l,rfl,?_,fun i s f=> ?_⟩
   ·exact World.block_lt_of_cell? W ⟨b,l+0,none⟩ (o 0 (by omega))
   ·have r:i<len:=by have:=(Zw f).1;omega
    rw[List.getElem?_take_of_lt r]at f;rw[o i (by omega)];simp[List.getD,f]
theorem FQ{H:Type}{c:TypeId×Value->H}{W:Zh}{base:Nat}{spare:Nat->Bool}{held:Bool}{a:Nat}{v:Value}{y:DataW H×List MemPlace}
 (h:DataW.trod c prog W base spare held a 9 [v]=some y):∃s,v=.string s/\s.size<=maxLen:=by
 obtain⟨s,b,_,d⟩:=DataW.trod_string underlying9 h;simp at b;exact⟨s,b,d⟩
end Go.Proofs.YtckmnfhmoankmaaGreatDoor
