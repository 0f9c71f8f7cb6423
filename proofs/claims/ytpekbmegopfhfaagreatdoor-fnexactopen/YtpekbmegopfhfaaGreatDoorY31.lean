import Derived.Test.YtpekbmegopfhfaaGreatDoorY30
set_option maxRecDepth 100000
set_option maxHeartbeats 16000000
namespace Go.Proofs.YtpekbmegopfhfaaGreatDoor
open Go.ChangeShapes Go.WideShapes Go.ChangeAt Go.RowKit _root_.Go.Proofs.Tryz
theorem CellsAt.mid {w:World} {B:Nat} (l1 l2 l3:List Value) (h:CellsAt w B (l1++(l2++l3))):w.rangeAt B l1.length l2:=fun j v hv=>by
 refine(h (l1.length+j) v ?_).1;rw[List.getElem?_append_right (by omega),Nat.add_sub_cancel_left,List.getElem?_append_left (List.getElem?_eq_some_iff.1 hv).1];exact hv
theorem ilimit_any (n:Int) (w:World):
 Calls prog 56 #[.int .i64 n] w fun e w'=>e=.returned (.bool (decide (0<=n/\n<=1000000)))/\w'=w:=by
 by_cases h1:0<=n
 ·by_cases h2:n<=1000000
  ·go_enter func56,ntmps56
   go_wp2;go_ret;exact⟨ret_b (by simp[h1,h2]),rfl⟩
  ·have h2':decide (n<=1000000)=false:=by simpa using h2
   go_enter func56,ntmps56;go_wp2;go_ret;exact⟨rfl,rfl⟩
 ·have h1':decide (0<=n)=false:=by simpa using h1
  go_enter func56,ntmps56;go_wp2;go_ret;exact⟨rfl,rfl⟩
structure Desk (w:World) (lo k d m base:Nat) (O P L:Value) (v:Vd) (a:Va) (r:Rs):Prop where
 box:CellsAt w k [.int .i32 0,.int .u32 0,.int .i64 v.wd,.int .i64 v.lim,.slice a.sa v.ss.length a.sc,.slice a.ta v.tt.length a.tc,.int .i64 v.sw,.int .i64 v.now,.int .i64 v.given,.int .i64 v.births,.slice a.ka v.ks.length a.kc,.slice a.pa v.ps.length a.pc,.slice a.la v.ls.length a.lc,.int .i64 v.ph,.slice a.qa v.qs.length a.qc,.slice a.ma v.ms.length a.mc,.int .i64 v.top,.int .i64 v.at_,.int .i64 v.ro,.pointer (some ⟨d,0,none⟩)]
 dr:Dr w base d m O P L v.wd r.now r.given r.births r.ks r.ps r.ls
 hlo:lo<=base
 hlk:lo<=k
 lt:∀b∈vB d m O P L,b<k
 far:base+4<=m
 ty:∃cur,w.heap[k]?=some (.cells cur 164)
def Rpl (w w':World) (v:Vd) (p:Value) (n:Int):Prop:=
 (∃k:Nat,RunNo v.wd (v.ss++v.tt) k/\p=.pointer none/\n=k)∨(∃r d m O P L base,Run v.wd r0 (v.ss++v.tt) r/\p=.pointer (some ⟨d,0,none⟩)/\n=0/\Dr w' base d m O P L v.wd r.now r.given r.births r.ks r.ps r.ls/\(w.heap.size<=base/\base+4<=m))
end Go.Proofs.YtpekbmegopfhfaaGreatDoor
