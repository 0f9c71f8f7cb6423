import Derived.Test.YtpekbmegopfhfaaGreatDoorW10
import Derived.Test.YtpekbmegopfhfaaGreatDoorW03
import Derived.Test.YtpekbmegopfhfaaGreatDoorW04
import Derived.Test.YtpekbmegopfhfaaGreatDoorW01
import Derived.Test.YtpekbmegopfhfaaGreatDoorW09
import Derived.Test.YtpekbmegopfhfaaGreatDoorW05
namespace Go.Proofs.YtpekbmegopfhfaaGreatDoor
open Go.ChangeShapes Go.WideShapes Go.ChangeAt Go.RowKit
def waitL (ls:List Ld) (n:Int):List Ld:=ls.filter (fun x=> !decide (x.til<=n))
set_option maxHeartbeats 1000000 in
theorem wait1_any (x:Ld) (b d:Nat) (n:Int) (w:World) (hc:w.cell? ⟨b,0,none⟩=some (.pointer (some ⟨d,0,none⟩))) (hn:w.cell? ⟨d,2,none⟩=some (.int .i64 n)):
 Calls Tryz.prog 209 #[.agg #[.int .i64 x.num,.string x.sum,.int .i64 x.til],.pointer (some ⟨b,0,none⟩)] w fun e w'=>e=.returned (.bool (decide (x.til<=n)))/\Below w.heap.size w w':=by
 obtain ⟨W,hW⟩:∃W,W=w.alloc (.cells #[.int .i64 x.num,.string x.sum,.int .i64 x.til] 137):=⟨_,rfl⟩
 have hB:Below w.heap.size w W:=by rw [hW];exact (Below.refl _ _).alloc (Nat.le_refl _) _
 have c0:W.cell? ⟨w.heap.size,2,none⟩=some (.int .i64 x.til):=by rw [hW];simp [go_sem]
 have c1:=(hB.cell (p:=⟨b,0,none⟩) (World.block_lt_of_cell? w _ hc)).trans hc
 have c2:=(hB.cell (p:=⟨d,2,none⟩) (World.block_lt_of_cell? w _ hn)).trans hn
 have hd:b<W.heap.size/\d<W.heap.size:=⟨World.block_lt_of_cell? W _ c1,World.block_lt_of_cell? W _ c2⟩
 have HW:Hid _:=hW
 clear hW hc hn
 go_enter Tryz.func209,Tryz.ntmps209
 go_upto_region 1 with fail
 rw [←HW.out]
 clear HW
 have HB:Hid (Below w.heap.size w W):=hB
 clear hB
 cases hbb:decide (x.til<=n)
 all_goals
  have HBB:Hid _:=hbb
  go_region_with fail
  all_goals
   clear c0 c1 c2
   go_wp2
   go_ret
   exact ⟨by rw [HBB.out];rfl,HB.out.drew⟩
def FirstAt (ls:List Ld) (n r:Int):Prop:=(r= -1/\∀x∈ls,n<x.til)∨∃(i:Nat) (x:Ld),r=i/\ls[i]?=some x/\x.til<=n/\∀j y,j<i->ls[j]?=some y->n<y.til
set_option maxHeartbeats 1000000 in
theorem indexWait_any (a:Option Addr) (cap b d:Nat) (n:Int) (ls:List Ld) (w:World) (hrow:LRow w w.heap.size a ls) (hl:ls.length<=1048576) (hc:w.cell? ⟨b,0,none⟩=some (.pointer (some ⟨d,0,none⟩))) (hn:w.cell? ⟨d,2,none⟩=some (.int .i64 n)):
 Calls Tryz.prog 236 #[.slice a ls.length cap,.func (.func 209) #[] #[.pointer (some ⟨b,0,none⟩)]] w fun e w'=>∃r:Int,e=.returned (.int .i64 r)/\FirstAt ls n r/\Below w.heap.size w w':=by
 have hbl:b<w.heap.size:=World.block_lt_of_cell? w _ hc
 have hdl:d<w.heap.size:=World.block_lt_of_cell? w _ hn
 go_enter Tryz.func236,Tryz.ntmps236
 go_wp2
 go_loopw [8] (fun i wr=>∃k:Nat,k<=ls.length/\i=.int .i64 k/\Hid (∀j x,j<k->ls[j]?=some x->n<x.til)/\Below w.heap.size w wr) (fun i _=>ls.length -(intOf i).toNat)
 case atStart=>exact ⟨0,Nat.zero_le _,rfl,(fun j x h=>by omega),Below.refl _ _⟩
 case round=>
  obtain ⟨k,hk,rfl,hall,hbel⟩:=hrel
  have hzr:=hbel.size
  by_cases hlt:k<ls.length
  ·obtain ⟨b',off,ha,hb,hc'⟩:=(hrow.below hbel).at hlt
   subst ha
   have hg:Hid (ls[k]?=some ls[k]):=List.getElem?_eq_getElem hlt
   obtain ⟨c0,c1,c2⟩:=hc' k _ hg.out
   have hcr:=(hbel.cell (p:=⟨b,0,none⟩) hbl).trans hc
   have hnr:=(hbel.cell (p:=⟨d,2,none⟩) hdl).trans hn
   clear hc' hrow
   generalize ls[k]=x at *
   go_wp2_with fail
   refine (wait1_any x b d n wr hcr hnr).mono ?_
   rintro e w1 ⟨rfl,hb1⟩
   have hB1:=hbel.trans (hb1.mono hzr)
   by_cases h:x.til<=n
   ·have hd:decide (x.til<=n)=true:=by simpa using h
    have HH:Hid (x.til<=n):=h
    rw [hd]
    clear h hd
    go_wp2
    go_ret
    exact ⟨_,rfl,.inr ⟨k,x,rfl,hg.out,HH.out,hall.out⟩,hB1⟩
   ·have HA:Hid (∀j y,j<k+1->ls[j]?=some y->n<y.til):=by
     intro j y hj hy
     rcases Nat.lt_or_ge j k with h'|h'
     ·exact hall.out j y h' hy
     ·obtain rfl:j=k:=by omega
      rw [hg.out] at hy
      cases hy
      exact Int.not_le.1 h
    have hd:decide (x.til<=n)=false:=by simpa using h
    rw [hd]
    clear h hd
    go_wp2
    exact ⟨⟨k+1,by omega,by go_num,HA,hB1⟩,by simp [intOf];omega⟩
  ·go_wp2
   go_ret
   refine ⟨_,rfl,.inl ⟨rfl,fun x hx=> ?_⟩,hbel⟩
   obtain ⟨j,hj,rfl⟩:=List.getElem_of_mem hx
   exact hall.out j _ (by omega) (List.getElem?_eq_getElem hj)
end Go.Proofs.YtpekbmegopfhfaaGreatDoor
namespace Go.Proofs.YtpekbmegopfhfaaGreatDoor
open Go.ChangeShapes Go.WideShapes Go.ChangeAt Go.RowKit
def refsN (ks:List Kd):Nat:=(ks.map (fun k=>k.refs.length)).sum
end Go.Proofs.YtpekbmegopfhfaaGreatDoor
namespace Go.Proofs.YtpekbmegopfhfaaGreatDoor
open Go.ChangeShapes Go.WideShapes Go.ChangeAt Go.RowKit
def Alive (w w':World):Prop:=∀b o,(w.cell? ⟨b,o,none⟩).isSome=true->(w'.cell? ⟨b,o,none⟩).isSome=true/\(w.frozen? ⟨b,o,none⟩=false->w'.frozen? ⟨b,o,none⟩=false)
def Wr (w:World) (q n:Nat):Prop:=∀j,j<n->(w.cell? ⟨q,j,none⟩).isSome=true/\w.frozen? ⟨q,j,none⟩=false
def MSt (w wr:World) (g n:Nat):Prop:=Wr wr g n/\w.grownBy wr (some g)/\Alive w wr
structure KSt (w wr:World) (lo N g:Nat) (ks:List Kd):Prop where
 row:Wr wr g (ks.length *4)
 bel:Below lo w wr
 al:Alive w wr
 far:∀k,N<=k->k<w.heap.size->wr.heap[k]?=w.heap[k]?
 refs:∀i x,ks[i]?=some x->∃q c,wr.cell? ⟨g,i *4+3,none⟩=some (.slice (some ⟨q,0,none⟩) x.refs.length c)/\g<q/\q<N/\Wr wr q x.refs.length
end Go.Proofs.YtpekbmegopfhfaaGreatDoor
namespace Go.Proofs.YtpekbmegopfhfaaGreatDoor
open Go.ChangeShapes Go.WideShapes Go.ChangeAt Go.RowKit
def markX (k:Nat) (x:Kd):Kd:=⟨mkT k,(k:Int)+1,mkT (k+1+1),marks (k+1+1+1) x.refs.length⟩
def markK:Nat->List Kd->List Kd
 |_,[]=>[]
 |k,x::xs=>markX k x::markK (k+3+x.refs.length) xs
structure KAns (w:World) (base:Nat) (T:Value) (rs:List Value) (ks:List Kd):Prop where
 len:rs.length=ks.length
 things:w.ownsRow base 114 4 T ks.length (rowC kC (ks.zip rs))
 refs:∀(i:Nat) (k:Kd) (r:Value),ks[i]?=some k->rs[i]?=some r->w.ownsRow base 9 1 r k.refs.length (k.refs.map Value.string)
 nd:(T.ownBlock.toList++rs.filterMap Value.ownBlock).Nodup
end Go.Proofs.YtpekbmegopfhfaaGreatDoor
namespace Go.Proofs.YtpekbmegopfhfaaGreatDoor
open Go.ChangeShapes Go.WideShapes Go.ChangeAt Go.RowKit
end Go.Proofs.YtpekbmegopfhfaaGreatDoor
