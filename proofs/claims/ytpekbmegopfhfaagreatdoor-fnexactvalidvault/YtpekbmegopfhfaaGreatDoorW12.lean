import Derived.Test.YtpekbmegopfhfaaGreatDoorW11
import Derived.Test.YtpekbmegopfhfaaGreatDoorW06
import Derived.Test.YtpekbmegopfhfaaGreatDoorW04
import Derived.Test.YtpekbmegopfhfaaGreatDoorW05
namespace Go.Proofs.YtpekbmegopfhfaaGreatDoor
open Go.ChangeShapes Go.WideShapes Go.ChangeAt Go.RowKit
def markP (k:Nat) (ps:List Pd):List Pd:=(List.range ps.length).map fun i=>⟨mkT (k+i *2),mkT (k+i *2+1)⟩
def markL (k:Nat) (ls:List Ld):List Ld:=(List.range ls.length).map fun (i:Nat)=>⟨(k:Int)+(i:Int) *3,mkT (k+i *3+1),(k:Int)+(i:Int) *3+1+1⟩
theorem row_setP:∀{zs:List Pd} {i:Nat},i<zs.length->∀y:Pd,((rowC pC zs).set (i *2) (.string y.name)).set (i *2+1) (.string y.sum)=rowC pC (zs.set i y)
 |[],i,h,_=>by simp at h
 |z::zs,0,h,y=>by simp [rowC,pC]
 |z::zs,i+1,h,y=>by
  have ih:=row_setP (zs:=zs) (i:=i) (by simpa using h) y
  have e:rowC pC (z::zs)=pC z++rowC pC zs:=by simp [rowC]
  have e2:rowC pC ((z::zs).set (i+1) y)=pC z++rowC pC (zs.set i y):=by simp [rowC]
  rw [e,e2,←ih,show (i+1) *2=(pC z).length+i *2 by rw [pC_len];omega]
  rw [List.set_append_right _ _ (by omega),Nat.add_sub_cancel_left,show (pC z).length+i *2+1=(pC z).length+(i *2+1) by omega,List.set_append_right _ _ (by omega),Nat.add_sub_cancel_left]
theorem row_setL:∀{zs:List Ld} {i:Nat},i<zs.length->∀y:Ld,(((rowC lC zs).set (i *3) (.int .i64 y.num)).set (i *3+1) (.string y.sum)).set (i *3+2) (.int .i64 y.til)=rowC lC (zs.set i y)
 |[],i,h,_=>by simp at h
 |z::zs,0,h,y=>by simp [rowC,lC]
 |z::zs,i+1,h,y=>by
  have ih:=row_setL (zs:=zs) (i:=i) (by simpa using h) y
  have e:rowC lC (z::zs)=lC z++rowC lC zs:=by simp [rowC]
  have e2:rowC lC ((z::zs).set (i+1) y)=lC z++rowC lC (zs.set i y):=by simp [rowC]
  rw [e,e2,←ih,show (i+1) *3=(lC z).length+i *3 by rw [lC_len];omega]
  rw [List.set_append_right _ _ (by omega),Nat.add_sub_cancel_left,show (lC z).length+i *3+1=(lC z).length+(i *3+1) by omega,List.set_append_right _ _ (by omega),Nat.add_sub_cancel_left,show (lC z).length+i *3+2=(lC z).length+(i *3+2) by omega,List.set_append_right _ _ (by omega),Nat.add_sub_cancel_left]
end Go.Proofs.YtpekbmegopfhfaaGreatDoor
namespace Go.Proofs.YtpekbmegopfhfaaGreatDoor
open Go.ChangeShapes Go.WideShapes Go.ChangeAt Go.RowKit
theorem zeros_one (k:Nat):∀v∈(Builtin.zeroCells #[.int .i64 0,.string ⟨#[]⟩,.int .i64 0] k).toList,v.oneCell'=true:=by
 intro v hv
 simp only [Builtin.zeroCells,Array.toList_map,List.mem_map] at hv
 obtain ⟨i,_,rfl⟩:=hv
 have h3:i%3=0∨i%3=1∨i%3=2:=by omega
 show (#[Value.int .i64 0,.string ⟨#[]⟩,.int .i64 0][i%3]!).oneCell'=true
 rcases h3 with h|h|h<;>rw [h]<;>rfl
theorem run_clear_leases (w:World) (ty:TypeId) (b o k c:Nat) (hk:0<k) (hc:∀j,j<k *3->(w.cell? ⟨b,o+j,none⟩).isSome=true) (hf:∀j,j<k *3->w.frozen? ⟨b,o+j,none⟩=false):
 (Builtin.clear_ #[26] ty #[.slice (some ⟨b,o,none⟩) k c]).run Tryz.prog w=.ok (.tuple #[]) (w.setCells b o (Builtin.zeroCells #[.int .i64 0,.string ⟨#[]⟩,.int .i64 0] k).toList):=by
 have hl:(Builtin.zeroCells #[.int .i64 0,.string ⟨#[]⟩,.int .i64 0] k).toList.length=k *3:=by rw [Array.length_toList,size_zeroCells];rfl
 have hst:=run_storeCells_cells (P:=Tryz.prog) b o (Builtin.zeroCells #[.int .i64 0,.string ⟨#[]⟩,.int .i64 0] k).toList 0 w (by rw [hl];simpa using hc) (by rw [hl];simpa using hf) (zeros_one k)
 simp only [Nat.add_zero] at hst
 have hzk:=zeroLease
 have hcl:(Value.agg #[.int .i64 0,.string ⟨#[]⟩,.int .i64 0]).cells= #[.int .i64 0,.string ⟨#[]⟩,.int .i64 0]:=rfl
 obtain ⟨k',rfl⟩:∃k',k=k'+1:=⟨k -1,by omega⟩
 simp [Builtin.clear_,run_underlying Tryz.underlying26,hzk,hcl,hst]
theorem own_set3 {w:World} {base g cap n:Nat} {ls:List Ld} (h:w.ownsRow base 137 3 (.slice (some ⟨g,0,none⟩) n cap) n (rowC lC ls)) {i:Nat} (hi:i<ls.length) (y:Ld):(((w.setCell ⟨g,i *3,none⟩ (.int .i64 y.num)).setCell ⟨g,i *3+1,none⟩ (.string y.sum)).setCell ⟨g,i *3+2,none⟩ (.int .i64 y.til)).ownsRow base 137 3 (.slice (some ⟨g,0,none⟩) n cap) n (rowC lC (ls.set i y)):=by
 have h1:=(h.stored (i *3) (.int .i64 y.num)).1
 have h2:=(h1.stored (i *3+1) (.string y.sum)).1
 have h3:=(h2.stored (i *3+2) (.int .i64 y.til)).1
 rw [row_setL hi y] at h3
 exact h3
structure Mid (ls cur:List Ld) (n:Int) (i j:Nat):Prop where
 len:cur.length=ls.length
 kept:cur.take i=waitL (ls.take j) n
 rest:cur.drop j=ls.drop j
 lt:i<j
 le:j<=ls.length
theorem Mid.start {ls:List Ld} {n:Int} {i:Nat} {x:Ld} (hx:ls[i]?=some x) (ht:x.til<=n) (hb:∀j y,j<i->ls[j]?=some y->n<y.til):Mid ls ls n i (i+1):=by
 have hil:=(List.getElem?_eq_some_iff.1 hx).1
 obtain ⟨_,e⟩:=List.getElem?_eq_some_iff.1 hx
 refine ⟨rfl,?_,rfl,by omega,by omega⟩
 unfold waitL
 rw [List.take_succ_eq_append_getElem hil,List.filter_append,e]
 have h1:(ls.take i).filter (fun x=> !decide (x.til<=n))=ls.take i:=List.filter_eq_self.2 (fun y hy=>by
  obtain ⟨j,hj⟩:=List.getElem?_of_mem hy
  have hjl:=(List.getElem?_eq_some_iff.1 hj).1
  rw [List.length_take] at hjl
  have:=hb j y (by omega) (by rw [List.getElem?_take_of_lt (by omega)] at hj;exact hj)
  simp
  omega)
 rw [h1]
 simp [ht]
theorem Mid.at {ls cur:List Ld} {n:Int} {i j:Nat} (h:Mid ls cur n i j) (hj:j<ls.length):cur[j]?=some ls[j]:=by
 have:=congrArg (fun l=>l[0]?) h.rest
 simp only [List.getElem?_drop,Nat.add_zero] at this
 rw [this,List.getElem?_eq_getElem hj]
theorem Mid.skip {ls cur:List Ld} {n:Int} {i j:Nat} (h:Mid ls cur n i j) (hj:j<ls.length) (ht:ls[j].til<=n):Mid ls cur n i (j+1):=by
 refine ⟨h.len,?_,?_,by have:=h.lt;omega,by omega⟩
 ·rw [h.kept]
  unfold waitL
  rw [List.take_succ_eq_append_getElem hj,List.filter_append]
  simp [ht]
 ·have:=congrArg (List.drop 1) h.rest
  rw [List.drop_drop,List.drop_drop] at this
  exact this
theorem Mid.move {ls cur:List Ld} {n:Int} {i j:Nat} (h:Mid ls cur n i j) (hj:j<ls.length) (ht:n<ls[j].til):Mid ls (cur.set i ls[j]) n (i+1) (j+1):=by
 have hlt:=h.lt
 have hlen:=h.len
 have hil:i<cur.length:=by omega
 refine ⟨by rw [List.length_set];exact hlen,?_,?_,by omega,by omega⟩
 ·have hnt:¬ls[j].til<=n:=by omega
  rw [List.take_succ_eq_append_getElem (by rw [List.length_set];exact hil),List.take_set_of_le (Nat.le_refl _),h.kept,List.getElem_set_self]
  unfold waitL
  rw [List.take_succ_eq_append_getElem hj,List.filter_append]
  simp [hnt]
 ·have:=congrArg (List.drop 1) h.rest
  rw [List.drop_drop,List.drop_drop] at this
  rw [List.drop_set_of_lt (by omega)]
  exact this
theorem Mid.done {ls cur:List Ld} {n:Int} {i:Nat} (h:Mid ls cur n i ls.length):cur.take i=waitL ls n/\(waitL ls n).length=i:=by
 have h1:=h.kept
 rw [List.take_of_length_le (Nat.le_refl _)] at h1
 refine ⟨h1,?_⟩
 rw [←h1,List.length_take]
 have:=h.lt
 have:=h.len
 omega
set_option maxRecDepth 20000 in
set_option maxHeartbeats 4000000 in
theorem deleteFunc_any (g cap base b d:Nat) (n:Int) (ls:List Ld) (w:World) (ho:w.ownsRow base 137 3 (.slice (some ⟨g,0,none⟩) ls.length cap) ls.length (rowC lC ls)) (hl:ls.length<=200) (hc:w.cell? ⟨b,0,none⟩=some (.pointer (some ⟨d,0,none⟩))) (hn:w.cell? ⟨d,2,none⟩=some (.int .i64 n)) (hbg:b≠g) (hdg:d≠g):
 Calls Tryz.prog 208 #[.slice (some ⟨g,0,none⟩) ls.length cap,.func (.func 209) #[] #[.pointer (some ⟨b,0,none⟩)]] w fun e w'=>e=.returned (.slice (some ⟨g,0,none⟩) (waitL ls n).length cap)/\w'.ownsRow base 137 3 (.slice (some ⟨g,0,none⟩) (waitL ls n).length cap) (waitL ls n).length (rowC lC (waitL ls n))/\w.grownBy w' (some g):=by
 have hcap:ls.length<=cap/\cap<=maxLen:=by
  rcases ho.2 with ⟨e,_⟩|⟨g',cap',cur,e,hb,hg,h1,h2,h3,h4⟩
  ·cases e
  ·cases e;exact ⟨h1,h2⟩
 obtain ⟨hc1,hc2⟩:=hcap
 unfold maxLen at hc2
 have HX:Hid _:=indexWait_any (some ⟨g,0,none⟩) cap b d n ls w (LRow.own ho) (by omega) hc hn
 have HO:Hid (w.ownsRow base 137 3 (.slice (some ⟨g,0,none⟩) ls.length cap) ls.length (rowC lC ls)):=ho
 have HC:Hid (∀X,w.grownBy X (some g)->X.cell? ⟨b,0,none⟩=some (.pointer (some ⟨d,0,none⟩))/\X.cell? ⟨d,2,none⟩=some (.int .i64 n)):=fun X hX=>⟨hX.cell hc (fun e=>hbg (Option.some.inj e)),hX.cell hn (fun e=>hdg (Option.some.inj e))⟩
 clear ho hc hn hbg hdg
 go_enter Tryz.func208,Tryz.ntmps208
 go_wp2_with fail
 refine Calls.mono HX.out ?_
 rintro e w1 ⟨r,rfl,hr,hb1⟩
 have HO1:Hid (w1.ownsRow base 137 3 (.slice (some ⟨g,0,none⟩) ls.length cap) ls.length (rowC lC ls)):=own_below HO.out hb1
 have HG1:Hid (w.grownBy w1 (some g)):=grown_below _ hb1
 clear hb1 HX HO
 rcases hr with ⟨rfl,hall⟩|⟨i,x,rfl,hxi,hxt,hxb⟩
 ·have HE:Hid (waitL ls n=ls):=List.filter_eq_self.2 (fun y hy=>by have:=hall y hy;simp;omega)
  clear hall
  go_wp2
  go_ret
  rw [HE.out]
  exact ⟨rfl,HO1.out,HG1.out⟩
 ·have HM:Hid (Mid ls ls n i (i+1)):=Mid.start hxi hxt hxb
  have hi1:((i:Int)== -1)=false:=by simp
  have hil:i<ls.length:=(List.getElem?_eq_some_iff.1 hxi).1
  clear hxi hxt hxb
  go_wp2
  go_loopw [5,6] (fun vi vj wr=>∃(ii jj:Nat) (cur:List Ld),vi=.int .i64 ii/\vj=.int .i64 jj/\ii<jj/\jj<=ls.length/\Hid (Mid ls cur n ii jj/\wr.ownsRow base 137 3 (.slice (some ⟨g,0,none⟩) ls.length cap) ls.length (rowC lC cur)/\w.grownBy wr (some g))) (fun _ j _=>ls.length -(intOf j).toNat)
  case atStart=>exact ⟨i,i+1,ls,rfl,by go_num,by omega,by omega,HM.out,HO1.out,HG1.out⟩
  case round=>
   clear HM HO1 HG1 hil
   obtain ⟨ii,jj,cur,rfl,rfl,hij,hjl,HI⟩:=hrel
   by_cases hlt:jj<ls.length
   ·have HG:Hid (cur[jj]?=some ls[jj]):=HI.out.1.at hlt
    have HSk:Hid (ls[jj].til<=n->Mid ls cur n ii (jj+1)):=fun h=>HI.out.1.skip hlt h
    have HMv:Hid (n<ls[jj].til->Mid ls (cur.set ii ls[jj]) n (ii+1) (jj+1)):=fun h=>HI.out.1.move hlt h
    have hcl:cur.length=ls.length:=HI.out.1.len
    generalize ls[jj]=x at *
    have hcc:∀k,k<3->wr.cell? ⟨g,jj *3+k,none⟩=(lC x)[k]?:=fun k hk=>(HI.out.2.1.cellAt (jj *3+k) (by omega)).trans (row_get lC_len HG.out hk)
    have c0:wr.cell? ⟨g,jj *3,none⟩=some (.int .i64 x.num):=by simpa [lC] using hcc 0 (by decide)
    have c1:wr.cell? ⟨g,jj *3+1,none⟩=some (.string x.sum):=by simpa [lC] using hcc 1 (by decide)
    have c2:wr.cell? ⟨g,jj *3+2,none⟩=some (.int .i64 x.til):=by simpa [lC] using hcc 2 (by decide)
    obtain ⟨W,hW⟩:∃W,W=wr.alloc (.cells #[.int .i64 x.num,.string x.sum,.int .i64 x.til] 137):=⟨_,rfl⟩
    have bW:Below wr.heap.size wr W:=by rw [hW];exact (Below.refl _ _).alloc (Nat.le_refl _) _
    have zW:CellsAt W wr.heap.size [.int .i64 x.num,.string x.sum,.int .i64 x.til]:=by rw [hW];exact CellsAt.new wr _ _
    have HZ:Hid (CellsAt W wr.heap.size [.int .i64 x.num,.string x.sum,.int .i64 x.til]):=zW
    have hgW:w.grownBy W (some g):=grown_trans HI.out.2.2 (grown_below _ bW)
    have HOW:Hid (W.ownsRow base 137 3 (.slice (some ⟨g,0,none⟩) ls.length cap) ls.length (rowC lC cur)/\w.grownBy W (some g)):=⟨own_below HI.out.2.1 bW,hgW⟩
    obtain ⟨hb0,hd0⟩:=HC.out W hgW
    have hw1:=wait1_any x b d n W hb0 hd0
    have HW:Hid _:=hW
    have hjl':(jj:Int)<ls.length:=by omega
    have hrl:wr.heap.size<W.heap.size:=zW.lt
    clear hW hcc bW zW hgW hb0 hd0 HI
    go_upto_region 8 with fail
    rw [←HW.out]
    clear HW c0 c1 c2
    obtain ⟨z0,_⟩:=HZ.out 0 _ rfl
    obtain ⟨z1,_⟩:=HZ.out 1 _ rfl
    obtain ⟨z2,_⟩:=HZ.out 2 _ rfl
    go_wp2_with fail
    refine hw1.mono ?_
    rintro e w2 ⟨rfl,hb2⟩
    have HO2:Hid (w2.ownsRow base 137 3 (.slice (some ⟨g,0,none⟩) ls.length cap) ls.length (rowC lC cur)/\w.grownBy w2 (some g)):=⟨own_below HOW.out.1 hb2,grown_trans HOW.out.2 (grown_below _ hb2)⟩
    have HZ2:=CellsAt.below HZ.out hb2
    clear z0 z1 z2 hb2 HOW hw1 HZ
    by_cases ht:x.til<=n
    ·have hd:decide (x.til<=n)=true:=by simpa using ht
     have HS:Hid (Mid ls cur n ii (jj+1)):=HSk.out ht
     rw [hd]
     clear hd ht HSk HMv HZ2
     go_wp2
     exact ⟨⟨ii,jj+1,cur,rfl,by go_num,by omega,by omega,HS.out,HO2.out.1,HO2.out.2⟩,by simp [intOf];omega⟩
    ·have hd:decide (x.til<=n)=false:=by simpa using ht
     have HS:Hid (Mid ls (cur.set ii x) n (ii+1) (jj+1)):=HMv.out (Int.not_le.1 ht)
     have hil:ii<cur.length:=by omega
     have hset:=own_set3 HO2.out.1 hil x
     have hfr:∀o,w2.frozen? ⟨g,o,none⟩=false:=fun o=>HO2.out.1.frozenAt o
     have hsm:∀k,k<3->∃v,w2.cell? ⟨g,ii *3+k,none⟩=some v:=fun k hk=>⟨_,(HO2.out.1.cellAt (ii *3+k) (by omega)).trans (List.getElem?_eq_getElem (by rw [row_len lC_len];omega))⟩
     obtain ⟨v0,s0⟩:=hsm 0 (by decide)
     obtain ⟨v1,s1⟩:=hsm 1 (by decide)
     obtain ⟨v2,s2⟩:=hsm 2 (by decide)
     rw [Nat.add_zero] at s0
     have q0:=hfr (ii *3)
     have q1:=hfr (ii *3+1)
     have q2:=hfr (ii *3+2)
     have HFin:Hid _:=And.intro hset (grown_trans HO2.out.2 (grown_trans (grown_trans (rd_grown w2 g (ii *3) (.int .i64 x.num)) (rd_grown _ g (ii *3+1) (.string x.sum))) (rd_grown _ g (ii *3+2) (.int .i64 x.til))))
     obtain ⟨z0,_⟩:=HZ2 0 _ rfl
     obtain ⟨z1,_⟩:=HZ2 1 _ rfl
     obtain ⟨z2,_⟩:=HZ2 2 _ rfl
     have hil':(ii:Int)<ls.length:=by omega
     rw [hd]
     clear hd ht HSk HMv HZ2 hset hsm hfr
     go_wp2
     exact ⟨⟨ii+1,jj+1,cur.set ii x,by go_num,by go_num,by omega,by omega,HS.out,HFin.out.1,HFin.out.2⟩,by simp [intOf];omega⟩
   ·obtain rfl:jj=ls.length:=by omega
    obtain ⟨hk1,hk2⟩:=HI.out.1.done
    have hcl:cur.length=ls.length:=HI.out.1.len
    have HK:Hid ((waitL ls n).length=ii/\cur.take ii=waitL ls n):=⟨hk2,hk1⟩
    have hO:=HI.out.2.1
    have HG:Hid (w.grownBy wr (some g)):=HI.out.2.2
    have hcut:wr.ownsRow base 137 3 (.slice (some ⟨g,0,none⟩) ii cap) ii (rowC lC (waitL ls n)):=by
     rw [←hk1]
     have hO':=hO
     rw [←hcl] at hO'
     exact own_cutR lC_len hO' ii (by omega)
    have hf1:∀j,j<(ls.length -ii) *3->(wr.cell? ⟨g,ii *3+j,none⟩).isSome=true/\wr.frozen? ⟨g,ii *3+j,none⟩=false:=fun j hj=>by
     refine ⟨?_,hO.frozenAt _⟩
     rw [hO.cellAt (ii *3+j) (by omega),List.getElem?_eq_getElem (by rw [row_len lC_len];omega)]
     rfl
    have hclr:=run_clear_leases wr 0 g (ii *3) (ls.length -ii) (cap -ii) (by omega) (fun j hj=>(hf1 j hj).1) (fun j hj=>(hf1 j hj).2)
    have HCut:Hid _:=hcut
    have e1:ii<=ls.length:=by omega
    have e2:¬cap=ii:=by omega
    have e3:ii<=cap:=by omega
    clear hk1 hk2 hO hcut hf1 HI
    go_wp2
    go_ret
    rw [HK.out.1]
    exact ⟨rfl,own_past _ _ _ HCut.out (Nat.le_refl _),grown_trans HG.out (grown_setC g _ _ _)⟩
end Go.Proofs.YtpekbmegopfhfaaGreatDoor
namespace Go.Proofs.YtpekbmegopfhfaaGreatDoor
open Go.ChangeShapes Go.WideShapes Go.ChangeAt Go.RowKit
set_option maxHeartbeats 1000000 in
theorem deleteFunc_nil (a:Option Addr) (cap b d:Nat) (n:Int) (w:World) (hc:w.cell? ⟨b,0,none⟩=some (.pointer (some ⟨d,0,none⟩))) (hn:w.cell? ⟨d,2,none⟩=some (.int .i64 n)):
 Calls Tryz.prog 208 #[.slice a 0 cap,.func (.func 209) #[] #[.pointer (some ⟨b,0,none⟩)]] w fun e w'=>e=.returned (.slice a 0 cap)/\Below w.heap.size w w':=by
 have HX:Hid _:=indexWait_any a cap b d n [] w (.inl rfl) (by simp) hc hn
 go_enter Tryz.func208,Tryz.ntmps208
 go_wp2_with fail
 refine Calls.mono HX.out ?_
 rintro e w1 ⟨r,rfl,hr,hb1⟩
 rcases hr with ⟨rfl,_⟩|⟨i,x,_,hxi,_⟩
 ·go_wp2
  go_ret
  exact ⟨rfl,hb1⟩
 ·simp at hxi
theorem deleteFuncV (base b d:Nat) (L:Value) (n:Int) (ls:List Ld) (w:World) (ho:w.ownsRow base 137 3 L ls.length (rowC lC ls)) (hl:ls.length<=200) (hc:w.cell? ⟨b,0,none⟩=some (.pointer (some ⟨d,0,none⟩))) (hn:w.cell? ⟨d,2,none⟩=some (.int .i64 n)) (hbg:L.ownBlock≠some b) (hdg:L.ownBlock≠some d):
 Calls Tryz.prog 208 #[L,.func (.func 209) #[] #[.pointer (some ⟨b,0,none⟩)]] w fun e w'=>∃a c,e=.returned (.slice a (waitL ls n).length c)/\w'.ownsRow base 137 3 (.slice a (waitL ls n).length c) (waitL ls n).length (rowC lC (waitL ls n))/\w.grownBy w' L.ownBlock/\(Value.slice a (waitL ls n).length c).ownBlock=L.ownBlock:=by
 rcases ho.2 with ⟨rfl,hz⟩|⟨g,cap,cur,rfl,_⟩
 ·have:ls=[]:=List.eq_nil_of_length_eq_zero hz
  subst this
  refine (deleteFunc_nil none 0 b d n w hc hn).mono ?_
  rintro e w' ⟨rfl,hb⟩
  exact ⟨none,0,rfl,World.ownsRow_nil _ _ _ _,grown_below _ hb,rfl⟩
 ·refine (deleteFunc_any g cap base b d n ls w ho hl hc hn (fun e=>hbg (by rw [e];rfl)) (fun e=>hdg (by rw [e];rfl))).mono ?_
  rintro e w' ⟨rfl,h1,h2⟩
  exact ⟨_,_,rfl,h1,h2,rfl⟩
set_option maxRecDepth 20000 in
set_option maxHeartbeats 4000000 in
theorem wait_yes (base d m:Nat) (O P L:Value) (wd now given births:Int) (ks:List Kd) (ps:List Pd) (ls:List Ld) (ticks:Int) (w:World) (h:DU w base d m O P L wd now given births ks ps ls) (hl:ls.length<=200) (hn0:0<=now) (ht0:0<=ticks) (hs:now+ticks<=1000000000):
 Calls Tryz.prog 173 #[.pointer (some ⟨d,0,none⟩),.int .i64 ticks] w fun e w'=>e=.returned (.tuple #[])/\∃L',DU w' base d m O P L' wd (now+ticks) given births ks ps (waitL ls (now+ticks))/\Tn (d::L.ownBlock.toList) w w':=by
 obtain ⟨la,lcp,hLe⟩:=own_val h.dr.lea
 subst hLe
 have hdl:=h.dr.box.lt
 obtain ⟨W,hW⟩:∃W,W=w.alloc (.cells #[.pointer (some ⟨d,0,none⟩)] 82):=⟨_,rfl⟩
 have bW:Below w.heap.size w W:=by rw [hW];exact (Below.refl _ _).alloc (Nat.le_refl _) _
 have zW:CellsAt W w.heap.size [.pointer (some ⟨d,0,none⟩)]:=by rw [hW];exact CellsAt.new w _ _
 have hD:=h.below bW
 obtain ⟨X,hX⟩:∃X,X=W.setCell ⟨d,2,none⟩ (.int .i64 (now+ticks)):=⟨_,rfl⟩
 have tX:Tn [d] W X:=by rw [hX];exact tn1 _ _ _ _
 have hbX:CellsAt X d [.int .i64 wd,.map (some m),.int .i64 (now+ticks),.int .i64 given,.int .i64 births,O,P,.slice la ls.length lcp]:=by rw [hX];exact hD.dr.box.set 2 _
 have zX:CellsAt X w.heap.size [.pointer (some ⟨d,0,none⟩)]:=CellsAt.same zW (tX.block _ zW.lt (by simp;omega))
 have hLn:∀g,(Value.slice la ls.length lcp).ownBlock=some g->g≠d:=fun g hg=>((ap_parts h.dr.ap).2.2.2 g hg).1
 have hlX:X.ownsRow base 137 3 (.slice la ls.length lcp) ls.length (rowC lC ls):=own_same hD.dr.lea (fun g hg=>tX.block g (own_lt hD.dr.lea hg).2 (by simp;exact hLn g hg))
 have hbg:(Value.slice la ls.length lcp).ownBlock≠some w.heap.size:=fun e=>by have:=(own_lt h.dr.lea e).2;omega
 have hdg:(Value.slice la ls.length lcp).ownBlock≠some d:=fun e=>hLn d e rfl
 have HF:Hid (∀Y,Below X.heap.size X Y->Calls Tryz.prog 208 #[.slice la ls.length lcp,.func (.func 209) #[] #[.pointer (some ⟨w.heap.size,0,none⟩)]] Y fun e w'=>∃a c,e=.returned (.slice a (waitL ls (now+ticks)).length c)/\w'.ownsRow base 137 3 (.slice a (waitL ls (now+ticks)).length c) (waitL ls (now+ticks)).length (rowC lC (waitL ls (now+ticks)))/\Y.grownBy w' (Value.slice la ls.length lcp).ownBlock/\(Value.slice a (waitL ls (now+ticks)).length c).ownBlock=(Value.slice la ls.length lcp).ownBlock):=fun Y hY=>
  deleteFuncV base w.heap.size d _ (now+ticks) ls Y (own_below hlX hY) hl ((CellsAt.below zX hY) 0 _ rfl).1 ((hbX.below hY) 2 _ rfl).1 hbg hdg
 have HD:Hid (DU W base d m O P (.slice la ls.length lcp) wd now given births ks ps ls):=hD
 have HBW:Hid (Below w.heap.size w W):=bW
 have HTX:Hid (Tn [d] W X):=tX
 have HBX:Hid (CellsAt X d [.int .i64 wd,.map (some m),.int .i64 (now+ticks),.int .i64 given,.int .i64 births,O,P,.slice la ls.length lcp]):=hbX
 have HZX:Hid (CellsAt X w.heap.size [.pointer (some ⟨d,0,none⟩)]):=zX
 have HW:Hid _:=hW
 have HX:Hid _:=hX
 obtain ⟨z0,_⟩:=zW 0 _ rfl
 obtain ⟨c2,f2⟩:=hD.dr.box 2 _ rfl
 have hwr:IntKind.i64.wrap (now+ticks)=now+ticks:=wrap_sum hn0 (by omega) ht0 (by omega)
 have hgt:¬(1000000000<now+ticks):=by omega
 clear h bW zW hD hX hW tX hbX zX hlX
 go_enter Tryz.func173,Tryz.ntmps173
 go_upto_region 1 with fail
 rw [←HW.out]
 clear HW
 go_upto_region 4 with fail
 rw [←HX.out]
 clear HX z0 c2 f2
 have D0:Below X.heap.size X X.drew:=(Below.refl _ _).drew
 obtain ⟨z0,_⟩:=HZX.out 0 _ rfl
 obtain ⟨c7,_⟩:=HBX.out 7 _ rfl
 go_region_with (go_at_call 208;refine Calls.mono (HF.out X.drew D0) ?_;rintro e w2 ⟨va,vc,rfl,ho2,hg2,hv2⟩;have hb2:CellsAt w2 d [.int .i64 wd,.map (some m),.int .i64 (now+ticks),.int .i64 given,.int .i64 births,O,P,.slice la ls.length lcp]:=CellsAt.same HBX.out (hg2.block d HBX.out.lt (fun e=>hdg e.symm));have hz2:CellsAt w2 w.heap.size [.pointer (some ⟨d,0,none⟩)]:=CellsAt.same HZX.out (hg2.block w.heap.size HZX.out.lt (fun e=>hbg e.symm));obtain ⟨g7,k7⟩:=hb2 7 _ rfl;obtain ⟨y0,_⟩:=hz2 0 _ rfl)
 all_goals
  have hK:∃L',DU (w2.setCell ⟨d,7,none⟩ (.slice va (waitL ls (now+ticks)).length vc)) base d m O P L' wd (now+ticks) given births ks ps (waitL ls (now+ticks))/\Tn (d::(Value.slice la ls.length lcp).ownBlock.toList) w (w2.setCell ⟨d,7,none⟩ (.slice va (waitL ls (now+ticks)).length vc)):=by
   have t1:Tn (d::(Value.slice la ls.length lcp).ownBlock.toList) W (w2.setCell ⟨d,7,none⟩ (.slice va (waitL ls (now+ticks)).length vc)):=
    ((HTX.out.mono (by simp)).trans ((Tn.of D0).trans ((tn_grown hg2).mono (fun b hb=>List.mem_cons_of_mem _ hb)))).trans ((tn1 w2 d 7 _).mono (by simp))
   exact ⟨_,HD.out.newL t1 (hb2.set 7 _) (own_set ho2 (fun b hb=>hLn b (hv2▸hb)) 7 _) (.inl hv2),(Tn.of HBW.out).trans t1⟩
  have HK:Hid _:=hK
  clear hK ho2 hg2 hb2 hz2 z0 c7
  go_wp2
  go_end0
  exact ⟨rfl,HK.out⟩
end Go.Proofs.YtpekbmegopfhfaaGreatDoor
namespace Go.Proofs.YtpekbmegopfhfaaGreatDoor
open Go.ChangeShapes Go.WideShapes Go.ChangeAt Go.RowKit
set_option maxHeartbeats 2000000 in
theorem l4Held_any (wd now given births:Int) (T:Value) (p l:Option Addr) (pc lc:Nat) (ps:List Pd) (ls:List Ld) (s:ByteArray) (w:World) (hp:PRow w w.heap.size p ps) (hl:LRow w w.heap.size l ls) (hpl:ps.length<=1000) (hll:ls.length<=1000):
 Calls Tryz.prog 133 #[.agg #[.int .i64 wd,.int .i64 now,.int .i64 given,.int .i64 births,T,.slice p ps.length pc,.slice l ls.length lc],.string s] w fun e w'=>Says ((∃p∈ps,p.sum=s)∨∃l∈ls,l.sum=s) w w' e:=by
 have HPR:Hid _:=hp
 have HLR:Hid _:=hl
 have hx:=SBox.new w wd now given births T (.slice p ps.length pc) (.slice l ls.length lc) 28
 have hb0:Below w.heap.size w (w.alloc (.cells #[.int .i64 wd,.int .i64 now,.int .i64 given,.int .i64 births,T,.slice p ps.length pc,.slice l ls.length lc] 28)):=(Below.refl _ _).alloc (Nat.le_refl _) _
 obtain ⟨W,hW⟩:∃W,W=w.alloc (.cells #[.int .i64 wd,.int .i64 now,.int .i64 given,.int .i64 births,T,.slice p ps.length pc,.slice l ls.length lc] 28):=⟨_,rfl⟩
 rw [←hW] at hx hb0
 have HW:Hid _:=hW
 clear hp hl hW
 obtain ⟨q0,q1,q2,q3,q4,q5,q6,q7⟩:=hx
 clear q0 q1 q2 q3 q4
 go_enter Tryz.func133,Tryz.ntmps133
 go_upto_region 1 with fail
 rw [←HW.out]
 clear HW
 go_wp2
 go_loop [5] (fun i=>∃k:Nat,k<=ps.length/\i=.int .i64 k/\Hid (∀j x,j<k->ps[j]?=some x->¬x.sum=s)) (fun i=>ps.length -(intOf i).toNat)
 case atStart=>exact ⟨0,Nat.zero_le _,rfl,(fun j x h=>by omega)⟩
 case round=>
  obtain ⟨k,hk,rfl,hall⟩:=hrel
  by_cases hlt:k<ps.length
  ·obtain ⟨b,off,ha,hb,hc⟩:=(PRow.below HPR.out hb0).at hlt
   subst ha
   have HG:Hid (ps[k]?=some ps[k]):=List.getElem?_eq_getElem hlt
   obtain ⟨c0,c1⟩:=hc k _ HG.out
   clear hc
   generalize ps[k]=x at *
   by_cases h:x.sum=s
   ·have hq:(x.sum.toList==s.toList)=true:=by rw [h];simp
    have Hh:Hid _:=h
    clear h
    go_wp2
    refine bodyPost_ret (results_tmp rfl _ _ _) rfl ?_
    exact Says.yes (.inl ⟨x,List.mem_of_getElem? HG.out,Hh.out⟩) hb0
   ·have hq:(x.sum.toList==s.toList)=false:=beq_ne h
    have HA:Hid (∀j y,j<k+1->ps[j]?=some y->¬y.sum=s):=by
     intro j y hj hy
     rcases Nat.lt_or_ge j k with h'|h'
     ·exact hall.out j y h' hy
     ·obtain rfl:j=k:=by omega
      rw [HG.out] at hy
      cases hy
      exact h
    clear h
    go_wp2
    exact ⟨⟨k+1,by omega,by go_num,HA⟩,by simp [intOf];omega⟩
  ·have HNP:Hid (¬∃p∈ps,p.sum=s):=by
    rintro ⟨y,hy,hys⟩
    obtain ⟨j,hj,rfl⟩:=List.getElem_of_mem hy
    exact hall.out j _ (by omega) (List.getElem?_eq_getElem hj) hys
   clear hall
   go_wp2
   go_loop [6] (fun i=>∃k:Nat,k<=ls.length/\i=.int .i64 k/\Hid (∀j x,j<k->ls[j]?=some x->¬x.sum=s)) (fun i=>ls.length -(intOf i).toNat)
   case atStart=>exact ⟨0,Nat.zero_le _,rfl,(fun j x h=>by omega)⟩
   case round=>
    obtain ⟨k,hk,rfl,hall⟩:=hrel
    by_cases hlt:k<ls.length
    ·obtain ⟨b,off,ha,hb,hc⟩:=(LRow.below HLR.out hb0).at hlt
     subst ha
     have HG:Hid (ls[k]?=some ls[k]):=List.getElem?_eq_getElem hlt
     obtain ⟨c0,c1,c2⟩:=hc k _ HG.out
     clear hc
     generalize ls[k]=x at *
     by_cases h:x.sum=s
     ·have hq:(x.sum.toList==s.toList)=true:=by rw [h];simp
      have Hh:Hid _:=h
      clear h
      go_wp2
      refine bodyPost_ret (results_tmp rfl _ _ _) rfl ?_
      exact Says.yes (.inr ⟨x,List.mem_of_getElem? HG.out,Hh.out⟩) hb0
     ·have hq:(x.sum.toList==s.toList)=false:=beq_ne h
      have HA:Hid (∀j y,j<k+1->ls[j]?=some y->¬y.sum=s):=by
       intro j y hj hy
       rcases Nat.lt_or_ge j k with h'|h'
       ·exact hall.out j y h' hy
       ·obtain rfl:j=k:=by omega
        rw [HG.out] at hy
        cases hy
        exact h
      clear h
      go_wp2
      exact ⟨⟨k+1,by omega,by go_num,HA⟩,by simp [intOf];omega⟩
    ·go_wp2
     refine bodyPost_ret (results_tmp rfl _ _ _) rfl ?_
     refine Says.no (fun e=> ?_) hb0
     rcases e with e|⟨y,hy,hys⟩
     ·exact absurd e HNP.out
     ·obtain ⟨j,hj,rfl⟩:=List.getElem_of_mem hy
      exact absurd hys (hall.out j _ (by omega) (List.getElem?_eq_getElem hj))
end Go.Proofs.YtpekbmegopfhfaaGreatDoor
namespace Go.Proofs.YtpekbmegopfhfaaGreatDoor
open Go.ChangeShapes Go.WideShapes Go.ChangeAt Go.RowKit
set_option maxHeartbeats 400000 in
theorem has_any (a:Option Addr) (cap:Nat) (ss:List ByteArray) (s:ByteArray) (w:World) (B:Nat) (hrow:SRow w B a ss) (hl:ss.length<=1048576):
 Calls Tryz.prog 115 #[.slice a ss.length cap,.string s] w fun e w'=>e=.returned (.bool (ss.any (fun x=>decide (x=s))))/\w'=w:=by
 go_enter Tryz.func115,Tryz.ntmps115
 go_wp2
 go_loop [5] (fun i=>∃k:Nat,k<=ss.length/\i=.int .i64 k/\Hid (∀j x,j<k->ss[j]?=some x->x≠s)) (fun i=>ss.length -(intOf i).toNat)
 case atStart=>exact ⟨0,Nat.zero_le _,rfl,fun j x h=>by omega⟩
 case round=>
  obtain ⟨k,hk,rfl,hall⟩:=hrel
  by_cases hlt:k<ss.length
  ·obtain ⟨b,off,ha,hb,hc⟩:=hrow.at hlt
   subst ha
   have hg:Hid (ss[k]?=some ss[k]):=List.getElem?_eq_getElem hlt
   have c0:=hc k _ hg
   clear hc hrow
   generalize ss[k]=x at *
   by_cases he:x=s
   ·subst he
    have hh:Hid (ss.any (fun y=>decide (y=x))=true):=by
     show _=_
     rw [List.any_eq_true]
     exact ⟨x,List.mem_of_getElem? hg.out,by simp⟩
    go_wp2
    go_ret
    exact ⟨ret_b hh.out.symm,rfl⟩
   ·have hne:=beq_ne he
    have HA:Hid (∀j y,j<k+1->ss[j]?=some y->y≠s):=by
     intro j y hj hy
     rcases Nat.lt_or_ge j k with h'|h'
     ·exact hall.out j y h' hy
     ·obtain rfl:j=k:=by omega
      rw [hg.out] at hy
      cases hy
      exact he
    clear he hall hg
    go_wp2
    exact ⟨⟨k+1,by omega,by go_num,HA⟩,by simp [intOf];omega⟩
  ·go_wp2
   go_ret
   refine ⟨ret_b ?_,rfl⟩
   symm
   rw [List.any_eq_false]
   intro x hx
   obtain ⟨j,hj⟩:=List.getElem?_of_mem hx
   simpa using hall.out j x (by have:=(List.getElem?_eq_some_iff.1 hj).1;omega) hj
end Go.Proofs.YtpekbmegopfhfaaGreatDoor
