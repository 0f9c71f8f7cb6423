import Derived.Test.YtpekbmegopfhfaaGreatDoorW05
import Derived.Deep.RegionWith
import Derived.Deep.DeepCutAuto
import Derived.Test.YtpekbmegopfhfaaGreatDoorW04
import Derived.Sort.Walk0
namespace Go.Proofs.YtpekbmegopfhfaaGreatDoor
open Go.ChangeShapes Go.WideShapes Go.ChangeAt Go.RowKit
set_option maxRecDepth 20000 in
set_option maxHeartbeats 2000000 in
theorem l7SameThing_any (t u:ByteArray) (a b:Option Addr) (c d:Nat) (ss tt:List ByteArray) (w:World) (hr:SRow w w.heap.size a ss) (hq:SRow w w.heap.size b tt) (hl:ss.length<=100000) (hl':tt.length<=1048576):
 Calls Tryz.prog 114 #[.agg #[.string t,.slice a ss.length c],.agg #[.string u,.slice b tt.length d]] w fun e w'=>Says (t=u/\ss=tt) w w' e:=by
 obtain ⟨W,hW⟩:∃W,W=(w.alloc (.cells #[.string t,.slice a ss.length c] 66)).alloc (.cells #[.string u,.slice b tt.length d] 66):=⟨_,rfl⟩
 have bW:Below w.heap.size w W:=by rw [hW];exact ((Below.refl _ _).alloc (Nat.le_refl _) _).alloc (by simp) _
 have x0:CellsAt W w.heap.size [.string t,.slice a ss.length c]:=by rw [hW];exact CellsAt.below (CellsAt.new w _ 66) ((Below.refl _ _).alloc (Nat.le_refl _) _)
 have x1:CellsAt W (w.heap.size+1) [.string u,.slice b tt.length d]:=by
  have h1:=CellsAt.new (w.alloc (.cells #[.string t,.slice a ss.length c] 66)) [.string u,.slice b tt.length d] 66
  rw [World.size_alloc] at h1
  rw [hW]
  exact h1
 have HX:Hid (∀X,Below W.heap.size W X->CellsAt X w.heap.size [.string t,.slice a ss.length c]/\CellsAt X (w.heap.size+1) [.string u,.slice b tt.length d]/\SRow X w.heap.size a ss/\SRow X w.heap.size b tt/\Below w.heap.size w X):=fun X hX=>by
  have hb:Below w.heap.size w X:=bW.trans (hX.mono bW.size)
  exact ⟨CellsAt.below x0 hX,CellsAt.below x1 hX,hr.below hb,hq.below hb,hb⟩
 obtain ⟨y0,_⟩:=x0 0 _ rfl
 obtain ⟨y1,_⟩:=x0 1 _ rfl
 obtain ⟨z0,_⟩:=x1 0 _ rfl
 obtain ⟨z1,_⟩:=x1 1 _ rfl
 have HW:Hid _:=hW
 clear hW hr hq x0 x1
 by_cases ht:t=u
 ·subst ht
  have hte:(t.toList !=t.toList)=false:=by simp
  by_cases hlen:ss.length=tt.length
  ·have hle:((ss.length:Int) !=(tt.length:Int))=false:=by simp;omega
   have HLen:Hid (ss.length=tt.length):=hlen
   clear hlen
   go_enter Tryz.func114,Tryz.ntmps114
   go_upto_region 1 with fail
   rw [←HW.out]
   clear HW
   go_wp2
   go_loopw [5] (fun i wr=>∃k:Nat,k<=ss.length/\i=.int .i64 k/\Hid (ss.take k=tt.take k/\Below W.heap.size W wr)) (fun i _=>ss.length -(intOf i).toNat)
   case atStart=>exact ⟨0,Nat.zero_le _,rfl,⟨by simp,Below.refl _ _⟩⟩
   case round=>
    clear y0 y1 z0 z1
    obtain ⟨k,hk,rfl,HI⟩:=hrel
    obtain ⟨x0,x1,hr,hq,hbw⟩:=HX.out wr HI.out.2
    obtain ⟨y1,_⟩:=x0 1 _ rfl
    obtain ⟨z1,_⟩:=x1 1 _ rfl
    by_cases hlt:k<ss.length
    ·have hlt':k<tt.length:=by have:=HLen.out;omega
     obtain ⟨rb,ro,ha,hrb,hrc⟩:=hr.at hlt
     obtain ⟨qb,qo,hb,hqb,hqc⟩:=hq.at hlt'
     subst ha hb
     have c0:=hrc k _ (List.getElem?_eq_getElem hlt)
     have d0:=hqc k _ (List.getElem?_eq_getElem hlt')
     have hlr:rb<wr.heap.size:=Nat.lt_of_lt_of_le hrb hbw.size
     have hlq:qb<wr.heap.size:=Nat.lt_of_lt_of_le hqb hbw.size
     have HT1:Hid (ss.take (k+1)=ss.take k++[ss[k]]):=List.take_succ_eq_append_getElem hlt
     have HT2:Hid (tt.take (k+1)=tt.take k++[tt[k]]):=List.take_succ_eq_append_getElem hlt'
     have HN:Hid (∀x y,ss[k]?=some x->tt[k]?=some y->x≠y->ss≠tt):=fun x y h1 h2 hne e=>by
      subst e
      rw [h1] at h2
      exact hne (Option.some.inj h2)
     have HG1:Hid (ss[k]?=some ss[k]):=List.getElem?_eq_getElem hlt
     have HG2:Hid (tt[k]?=some tt[k]):=List.getElem?_eq_getElem hlt'
     have hkt:(k:Int)<tt.length:=by omega
     clear hrc hqc
     generalize ss[k]=x at *
     generalize tt[k]=y at *
     have HB:Hid (Below W.heap.size W wr):=HI.out.2
     have HBw:Hid (Below w.heap.size w wr):=hbw
     clear x0 x1 hr hq hbw
     by_cases hxy:x=y
     ·subst hxy
      have hxe:(x.toList !=x.toList)=false:=by simp
      go_wp2
      go_region
      all_goals go_wp2
      all_goals exact ⟨⟨k+1,by omega,by go_num,⟨by rw [HT1.out,HT2.out,HI.out.1],HB.out.drew⟩⟩,by simp [intOf];omega⟩
     ·have hxe:(x.toList==y.toList)=false:=beq_ne hxy
      have hxe2:(x.toList !=y.toList)=true:=by simp [bne,hxe]
      go_wp2
      go_region
      all_goals go_wp2
      all_goals go_ret
      all_goals exact Says.no (fun h=>HN.out x y HG1.out HG2.out hxy h.2) HBw.out.drew
    ·obtain rfl:k=ss.length:=by omega
     have hfin:=HI.out.1
     rw [List.take_of_length_le (Nat.le_refl _),List.take_of_length_le (by have:=HLen.out;omega)] at hfin
     clear x0 x1 hr hq
     go_wp2
     go_ret
     exact Says.yes ⟨by trivial,hfin⟩ hbw
  ·have hle:((ss.length:Int)==(tt.length:Int))=false:=by simp;omega
   have hle2:((ss.length:Int) !=(tt.length:Int))=true:=by simp;omega
   go_enter Tryz.func114,Tryz.ntmps114
   go_upto_region 1 with fail
   rw [←HW.out]
   go_wp2
   go_ret
   exact Says.no (fun h=>hlen (by rw [h.2])) bW
 ·have hte:(t.toList==u.toList)=false:=beq_ne ht
  have hte2:(t.toList !=u.toList)=true:=by simp [bne,hte]
  go_enter Tryz.func114,Tryz.ntmps114
  go_upto_region 1 with fail
  rw [←HW.out]
  go_wp2
  go_ret
  exact Says.no (fun h=>ht h.1) bW
end Go.Proofs.YtpekbmegopfhfaaGreatDoor
namespace Go.Proofs.YtpekbmegopfhfaaGreatDoor
open Go.ChangeShapes Go.WideShapes Go.ChangeAt Go.RowKit
open Go.Proofs
theorem toL_inj {a b:ByteArray} (h:a.toList=b.toList):a=b:=by
 rw [Lib.toList_data,Lib.toList_data] at h
 cases a;cases b
 simpa using h
theorem less_iff {a b:ByteArray}:less a b=true↔a.toList<b.toList:=by
 unfold less
 rw [bytesLess_eq,decide_eq_true_iff]
theorem less_tot {a b:ByteArray} (h:less a b=false) (hne:a≠b):less b a=true:=by
 rw [less_iff]
 have h1:¬a.toList<b.toList:=fun e=>by rw [less_iff.2 e] at h;cases h
 have h2:b.toList<=a.toList:=List.not_lt.1 h1
 by_cases e:b.toList<a.toList
 ·exact e
 ·exact absurd (toL_inj (Std.le_antisymm (List.not_lt.1 e) h2)) hne
end Go.Proofs.YtpekbmegopfhfaaGreatDoor
