import Derived.Test.YtpekbmegopfhfaaGreatDoorW13
import Derived.Test.YtpekbmegopfhfaaGreatDoorW14
import Derived.Laws.IdiomCopy
import Derived.Laws.CopyRow
import Derived.Laws.NewBlocks
import Derived.Laws.AppendOwn
import Derived.Lib.AppendZerosOnto
import Derived.Lib.Overlaps
import Derived.Lib.Walk
import Derived.WalkKit
namespace Go.Proofs.YtpekbmegopfhfaaGreatDoor
open Go.ChangeShapes Go.WideShapes Go.ChangeAt Go.RowKit
def pinD (ps:List Pd) (n:ByteArray):Bool:= !(ps.all (fun x=>less x.name n))
def pinQ (ps:List Pd) (n s:ByteArray):List Pd:=ps.filter (fun x=>less x.name n)++(if pinD ps n then [⟨n,s⟩] else [])++ps.filter (fun x=> !(less x.name n)&& !decide (x.name=n))
theorem pinD_snoc {ps:List Pd} {k:Nat} {x:Pd} (n:ByteArray) (hx:ps[k]?=some x):pinD (ps.take (k+1)) n=(pinD (ps.take k) n|| !(less x.name n)):=by
 obtain ⟨hlt,rfl⟩:=List.getElem?_eq_some_iff.1 hx
 unfold pinD
 rw [List.take_succ_eq_append_getElem hlt,List.all_append]
 simp
theorem pinQ_above {ps:List Pd} {n:ByteArray} (h:pinD ps n=false):ps.filter (fun x=> !(less x.name n)&& !decide (x.name=n))=[]:=by
 rw [List.filter_eq_nil_iff]
 intro x hx
 have:less x.name n=true:=by
  unfold pinD at h
  simp only [Bool.not_eq_false'] at h
  exact List.all_eq_true.1 h x hx
 simp [this]
theorem pinQ_early {ps:List Pd} {k:Nat} {x:Pd} (n s:ByteArray) (hx:ps[k]?=some x) (hd:pinD (ps.take k) n=false) (hl:less x.name n=true):pinQ (ps.take (k+1)) n s=pinQ (ps.take k) n s++[x]:=by
 have h1:=pinD_snoc n hx
 rw [hd,hl] at h1
 unfold pinQ
 rw [pinQ_above hd,pinQ_above (by rw [h1];rfl),h1,hd]
 obtain ⟨hlt,rfl⟩:=List.getElem?_eq_some_iff.1 hx
 rw [List.take_succ_eq_append_getElem hlt,List.filter_append]
 simp [hl]
theorem pinQ_at {ps:List Pd} {k:Nat} {x:Pd} (n s:ByteArray) (hx:ps[k]?=some x) (hd:pinD (ps.take k) n=false) (hl:less x.name n=false):pinQ (ps.take (k+1)) n s=pinQ (ps.take k) n s++[⟨n,s⟩]++(if x.name=n then [] else [x]):=by
 have h1:=pinD_snoc n hx
 rw [hd,hl] at h1
 unfold pinQ
 rw [pinQ_above hd,h1,hd]
 have ha:=pinQ_above hd
 obtain ⟨hlt,rfl⟩:=List.getElem?_eq_some_iff.1 hx
 rw [List.take_succ_eq_append_getElem hlt,List.filter_append,List.filter_append,ha]
 by_cases hn:ps[k].name=n
 ·simp [hn,less_irrefl]
 ·simp [hl,hn]
theorem pinQ_late {ps:List Pd} {k:Nat} {x:Pd} (n s:ByteArray) (hsort:ps.Pairwise (fun a b=>less a.name b.name=true)) (hx:ps[k]?=some x) (hd:pinD (ps.take k) n=true):x.name≠n/\pinQ (ps.take (k+1)) n s=pinQ (ps.take k) n s++[x]:=by
 have h1:=pinD_snoc n hx
 rw [hd,Bool.true_or] at h1
 obtain ⟨hlt,rfl⟩:=List.getElem?_eq_some_iff.1 hx
 obtain ⟨y,hy,hyn⟩:∃y∈ps.take k,less y.name n=false:=by
  unfold pinD at hd
  simpa using hd
 obtain ⟨j,hj⟩:=List.getElem?_of_mem hy
 obtain ⟨hjl,e⟩:=List.getElem?_eq_some_iff.1 hj
 rw [List.length_take] at hjl
 rw [List.getElem_take] at e
 have hlt2:=List.pairwise_iff_getElem.1 hsort j k (by omega) hlt (by omega)
 rw [e] at hlt2
 have hl:less ps[k].name n=false:=by
  cases h:less ps[k].name n with
  |false=>rfl
  |true=>rw [less_trans hlt2 h] at hyn;cases hyn
 have hn:ps[k].name≠n:=fun e2=>by rw [e2] at hlt2;rw [hlt2] at hyn;cases hyn
 refine ⟨hn,?_⟩
 unfold pinQ
 rw [h1,hd,List.take_succ_eq_append_getElem hlt,List.filter_append,List.filter_append]
 simp [hl,hn]
theorem pinQ_yes {ps:List Pd} (n s:ByteArray) (hd:pinD ps n=true):pinQ ps n s=pinP ps n s:=by
 unfold pinQ pinP
 rw [hd]
 rfl
theorem pinQ_no {ps:List Pd} (n s:ByteArray) (hd:pinD ps n=false):pinQ ps n s++[⟨n,s⟩]=pinP ps n s:=by
 unfold pinQ pinP
 rw [hd,pinQ_above hd]
 simp
theorem pinQ_len (ps:List Pd) (n s:ByteArray):(pinQ ps n s).length<=ps.length+1:=by
 have h:∀(l:List Pd),(l.filter (fun x=>less x.name n)).length+(l.filter (fun x=> !(less x.name n)&& !decide (x.name=n))).length<=l.length:=by
  intro l
  induction l with
  |nil=>simp
  |cons x l ih=>
   rw [List.filter_cons,List.filter_cons]
   cases less x.name n<;>by_cases hn:x.name=n<;>simp [hn]<;>omega
 have:=h ps
 unfold pinQ
 rw [List.length_append,List.length_append]
 split<;>simp<;>omega
def PinTo (w w':World) (e:Ending) (wd now given births:Int) (T L:Value) (ps:List Pd) (n s:ByteArray):Prop:=
 Below w.heap.size w w'/\((100<(pinP ps n s).length/\e=.returned (.agg #[.int .i64 4,.int .i64 0,.int .i64 0,.int .i64 0,.int .i64 0,.slice none 0 0,.slice none 0 0,.slice none 0 0,.string ⟨#[]⟩,.int .i64 0,.string ⟨#[]⟩,.string ⟨#[]⟩]))∨
  ((pinP ps n s).length<=100/\∃g c,e=.returned (.agg #[.int .i64 0,.int .i64 wd,.int .i64 now,.int .i64 given,.int .i64 births,T,.slice (some ⟨g,0,none⟩) (pinP ps n s).length c,L,.string ⟨#[]⟩,.int .i64 0,.string ⟨#[]⟩,.string ⟨#[]⟩])/\w'.ownsRow w.heap.size 134 2 (.slice (some ⟨g,0,none⟩) (pinP ps n s).length c) (pinP ps n s).length (rowC pC (pinP ps n s))))
set_option maxRecDepth 20000 in
set_option maxHeartbeats 4000000 in
theorem l4Pin_any (wd now given births kind num:Int) (ta pa la ra:Option Addr) (tc pc lc ln rn rc:Nat) (ks:List Kd) (ps:List Pd) (n s text:ByteArray) (w:World) (hks:KRow w w.heap.size ta ks) (hrow:PRow w w.heap.size pa ps) (hkl:ks.length<=1000) (hl:ps.length<=1000) (hth:There ks s) (hsort:ps.Pairwise (fun a b=>less a.name b.name=true)):
 Calls Tryz.prog 86 #[.agg #[.int .i64 wd,.int .i64 now,.int .i64 given,.int .i64 births,.slice ta ks.length tc,.slice pa ps.length pc,.slice la ln lc],.agg #[.int .i64 kind,.string s,.string n,.int .i64 num,.string text,.slice ra rn rc]] w fun e w'=>PinTo w w' e wd now given births (.slice ta ks.length tc) (.slice la ln lc) ps n s:=by
 obtain ⟨W,hW⟩:∃W,W=((w.alloc (.cells #[.int .i64 wd,.int .i64 now,.int .i64 given,.int .i64 births,.slice ta ks.length tc,.slice pa ps.length pc,.slice la ln lc] 28)).alloc (.cells #[.int .i64 kind,.string s,.string n,.int .i64 num,.string text,.slice ra rn rc] 77)).alloc (.cells #[.int .i64 0,.int .i64 0,.int .i64 0,.int .i64 0,.int .i64 0,.slice none 0 0,.slice none 0 0,.slice none 0 0,.string ⟨#[]⟩,.int .i64 0,.string ⟨#[]⟩,.string ⟨#[]⟩] 30):=⟨_,rfl⟩
 have bW:Below w.heap.size w W:=by rw [hW];exact (((Below.refl _ _).alloc (Nat.le_refl _) _).alloc (by simp) _).alloc (by simp;omega) _
 have hzW:W.heap.size=w.heap.size+3:=by rw [hW];simp
 have x0:CellsAt W w.heap.size [.int .i64 wd,.int .i64 now,.int .i64 given,.int .i64 births,.slice ta ks.length tc,.slice pa ps.length pc,.slice la ln lc]:=by
  rw [hW]
  exact CellsAt.below (CellsAt.new w _ 28) (((Below.refl _ _).alloc (Nat.le_refl _) _).alloc (by simp) _)
 have xe:CellsAt W (w.heap.size+1) [.int .i64 kind,.string s,.string n,.int .i64 num,.string text,.slice ra rn rc]:=by
  have h1:=CellsAt.new (w.alloc (.cells #[.int .i64 wd,.int .i64 now,.int .i64 given,.int .i64 births,.slice ta ks.length tc,.slice pa ps.length pc,.slice la ln lc] 28)) [.int .i64 kind,.string s,.string n,.int .i64 num,.string text,.slice ra rn rc] 77
  rw [World.size_alloc] at h1
  rw [hW]
  exact CellsAt.below h1 ((Below.refl _ _).alloc (Nat.le_refl _) _)
 have x1:CellsAt W (w.heap.size+2) z12:=by
  have h1:=CellsAt.new ((w.alloc (.cells #[.int .i64 wd,.int .i64 now,.int .i64 given,.int .i64 births,.slice ta ks.length tc,.slice pa ps.length pc,.slice la ln lc] 28)).alloc (.cells #[.int .i64 kind,.string s,.string n,.int .i64 num,.string text,.slice ra rn rc] 77)) z12 30
  rw [World.size_alloc,World.size_alloc] at h1
  rw [hW]
  exact h1
 have HFF:Hid _:=find_any wd now given births ta tc (.slice pa ps.length pc) (.slice la ln lc) ks s W w.heap.size (KRow.below hks bW) bW.size (by omega)
 have hfi:¬findI ks s<0:=by
  rcases findI_cases ks s with ⟨_,hn⟩|⟨i,k,e,_⟩
  ·exact absurd hth hn
  ·omega
 have HX:Hid (∀X,Below (w.heap.size+3) W X->CellsAt X w.heap.size [.int .i64 wd,.int .i64 now,.int .i64 given,.int .i64 births,.slice ta ks.length tc,.slice pa ps.length pc,.slice la ln lc]/\CellsAt X (w.heap.size+1) [.int .i64 kind,.string s,.string n,.int .i64 num,.string text,.slice ra rn rc]/\CellsAt X (w.heap.size+2) z12):=fun X hX=>⟨CellsAt.same x0 (hX.block _ (by omega)),CellsAt.same xe (hX.block _ (by omega)),CellsAt.same x1 (hX.block _ (by omega))⟩
 have HW:Hid _:=hW
 have hzW2:w.heap.size+3<=W.heap.size:=by omega
 have HR:Hid (PRow w w.heap.size pa ps):=hrow
 have HBW:Hid (Below w.heap.size w W):=bW
 have HSo:Hid (ps.Pairwise (fun a b=>less a.name b.name=true)):=hsort
 obtain ⟨v0,v1,v2,v3,v4,v5,v6,v7⟩:=sbox_of x0
 obtain ⟨u1,_⟩:=xe 1 _ rfl
 clear hW hzW x0 x1 xe hrow bW hks hth hsort
 go_enter Tryz.func86,Tryz.ntmps86
 go_upto_region 1 with fail
 rw [←HW.out]
 clear HW
 go_wp2_with fail
 refine Calls.mono HFF.out ?_
 rintro e W1 ⟨rfl,hb1⟩
 have hzW1:w.heap.size+3<=W1.heap.size:=Nat.le_trans hzW2 hb1.size
 have HB1:Hid (Below (w.heap.size+3) W W1):=hb1.mono hzW2
 have bA:Below W1.heap.size W1 (W1.alloc (.cells #[] 134)):=(Below.refl _ _).alloc (Nat.le_refl _) _
 have HOA:Hid ((W1.alloc (.cells #[] 134)).ownsRow (w.heap.size+3) 134 2 (.slice (some ⟨W1.heap.size,0,none⟩) 0 0) 0 []):=World.ownsRow_lit (base:=w.heap.size+3) (e:=134) (size:=2) W1 #[] 0 (by omega) (by unfold maxLen;omega) rfl
 have HBA:Hid (Below (w.heap.size+3) W (W1.alloc (.cells #[] 134))):=HB1.out.trans (bA.mono hzW1)
 generalize findI ks s=fi at *
 clear HFF bA hb1 u1 v0 v1 v2 v3 v4 v5 v6 v7
 go_wp2
 go_loopw [5,6,7] (fun v dn i wr=>∃(k g c:Nat),k<=ps.length/\i=.int .i64 k/\dn=.bool (pinD (ps.take k) n)/\v=.slice (some ⟨g,0,none⟩) (pinQ (ps.take k) n s).length c/\Hid (wr.ownsRow (w.heap.size+3) 134 2 (.slice (some ⟨g,0,none⟩) (pinQ (ps.take k) n s).length c) (pinQ (ps.take k) n s).length (rowC pC (pinQ (ps.take k) n s))/\Below (w.heap.size+3) W wr)) (fun _ _ i _=>ps.length -(intOf i).toNat)
 case atStart=>exact ⟨0,W1.heap.size,0,Nat.zero_le _,rfl,rfl,by simp [pinQ,pinD],⟨by simpa [pinQ,pinD,rowC] using HOA.out,HBA.out⟩⟩
 case round=>
  clear HOA HBA
  obtain ⟨k,g,c,hk,rfl,rfl,rfl,HI⟩:=hrel
  have hbr:Below w.heap.size w wr:=HBW.out.trans (HI.out.2.mono (by omega))
  have hzr:w.heap.size+3<=wr.heap.size:=Nat.le_trans hzW2 HI.out.2.size
  obtain ⟨v0,v1,v2,v3,v4,v5,v6,v7⟩:=sbox_of (HX.out _ HI.out.2).1
  obtain ⟨u1,_⟩:=(HX.out _ HI.out.2).2.1 1 _ rfl
  obtain ⟨u2,_⟩:=(HX.out _ HI.out.2).2.1 2 _ rfl
  by_cases hlt:k<ps.length
  ·obtain ⟨b',off,ha,hb,hc'⟩:=(PRow.below HR.out hbr).at hlt
   subst ha
   have HG:Hid (ps[k]?=some ps[k]):=List.getElem?_eq_getElem hlt
   obtain ⟨c0,c1⟩:=hc' k _ HG.out
   have HCC:∀X,Below (w.heap.size+3) W X->X.cell? ⟨b',off+k *2,none⟩=some (.string ps[k].name)/\X.cell? ⟨b',off+k *2+1,none⟩=some (.string ps[k].sum):=fun X hX=>by
    obtain ⟨b2,off2,e2,_,hc2⟩:=(PRow.below HR.out (HBW.out.trans (hX.mono (by omega)))).at hlt
    cases e2
    exact hc2 k _ HG.out
   have hgl:(pinQ (ps.take k) n s).length<=1001:=by
    have:=pinQ_len (ps.take k) n s
    rw [List.length_take] at this
    omega
   have hbl':b'<wr.heap.size:=by have:=hbr.size;omega
   clear hc'
   have HEarly:Hid _:=pinQ_early n s HG.out
   have HAt:Hid _:=pinQ_at n s HG.out
   have HLate:Hid _:=pinQ_late n s HSo.out HG.out
   have HD:Hid _:=pinD_snoc n HG.out
   generalize ps[k]=x at *
   generalize hGk:pinQ (ps.take k) n s=gk at *
   generalize hDk:pinD (ps.take k) n=dk at *
   have HGk:Hid _:=hGk
   clear hGk hDk
   have HC:Hid (∀X,Below (w.heap.size+3) W X->X.cell? ⟨b',off+k *2,none⟩=some (.string x.name)/\X.cell? ⟨b',off+k *2+1,none⟩=some (.string x.sum)):=HCC
   have hwr:=HI.out.2
   have owr:=HI.out.1
   have zwr:=hzr
   have lwr:=hbl'
   cases dk with
   |true=>
    obtain ⟨hxn,hE⟩:=HLate.out rfl
    have HE:Hid _:=hE
    have HD':Hid (pinD (ps.take (k+1)) n=true):=by show _=_;rw [HD.out];rfl
    have hq2:(x.name.toList==n.toList)=false:=beq_ne hxn
    have hq:(x.name.toList !=n.toList)=true:=by simp [bne,hq2]
    clear hE HEarly HAt HLate hxn HI
    go_wp2
    go_quiet (fail)
    have bq:Below wr.heap.size wr (wr.drewN nq):=belowN (Below.refl _ _) _
    generalize wr.drewN nq=wa at *
    have hwa:Below (w.heap.size+3) W wa:=hwr.trans (bq.mono (Nat.le_trans hzW2 hwr.size))
    have owa:=own_below owr bq
    have zwa:w.heap.size+3<=wa.heap.size:=Nat.le_trans hzW2 hwa.size
    have lwa:b'<wa.heap.size:=by omega
    clear c0 c1 u1 u2 v0 v1 v2 v3 v4 v5 v6
    obtain ⟨v0,v1,v2,v3,v4,v5,v6,v7⟩:=sbox_of (HX.out _ hwa).1
    obtain ⟨u1,_⟩:=(HX.out _ hwa).2.1 1 _ rfl
    obtain ⟨u2,_⟩:=(HX.out _ hwa).2.1 2 _ rfl
    obtain ⟨c0,c1⟩:=HC.out wa hwa
    go_wp2
    go_quiet (fail)
    have bq:Below wa.heap.size wa (wa.drewN nq):=belowN (Below.refl _ _) _
    generalize wa.drewN nq=wb at *
    have hwb:Below (w.heap.size+3) W wb:=hwa.trans (bq.mono (Nat.le_trans hzW2 hwa.size))
    have owb:=own_below owa bq
    have zwb:w.heap.size+3<=wb.heap.size:=Nat.le_trans hzW2 hwb.size
    have lwb:b'<wb.heap.size:=by omega
    clear c0 c1 u1 u2 v0 v1 v2 v3 v4 v5 v6
    obtain ⟨v0,v1,v2,v3,v4,v5,v6,v7⟩:=sbox_of (HX.out _ hwb).1
    obtain ⟨u1,_⟩:=(HX.out _ hwb).2.1 1 _ rfl
    obtain ⟨u2,_⟩:=(HX.out _ hwb).2.1 2 _ rfl
    obtain ⟨c0,c1⟩:=HC.out wb hwb
    obtain ⟨g8,cap8,wc,hrwc,howc,hgwc,_⟩:=ppush wb (w.heap.size+3) _ gk owb x (by first|omega|(simp;omega)) zwb 25
    have hwc:Below (w.heap.size+3) W wc:=hwb.trans ((Below.refl _ _).grown hgwc zwb (fun q e=>(own_lt owb e).1))
    have zwc:w.heap.size+3<=wc.heap.size:=Nat.le_trans hzW2 hwc.size
    have lwc:b'<wc.heap.size:=by omega
    have owc:=howc
    clear howc hgwc
    go_wp2_with (at_builtin;refine wpList_append_run rfl _ _ 25 25 rfl rfl rfl hrwc ?_)
    clear hrwc
    clear c0 c1 u1 u2 v0 v1 v2 v3 v4 v5 v6
    obtain ⟨v0,v1,v2,v3,v4,v5,v6,v7⟩:=sbox_of (HX.out _ hwc).1
    obtain ⟨u1,_⟩:=(HX.out _ hwc).2.1 1 _ rfl
    obtain ⟨u2,_⟩:=(HX.out _ hwc).2.1 2 _ rfl
    obtain ⟨c0,c1⟩:=HC.out wc hwc
    have HO:Hid _:=And.intro owc hwc
    clear owc hwc
    go_wp2
    exact ⟨⟨k+1,g8,cap8,by omega,by go_num,by rw [HD'.out],by rw [HE.out];simp,⟨by rw [HE.out];simpa using HO.out.1,HO.out.2⟩⟩,by simp [intOf];omega⟩
   |false=>
    cases hless:Op.bytesLess x.name.toList n.toList with
    |true=>
     have HE:Hid _:=HEarly.out rfl hless
     have HD':Hid (pinD (ps.take (k+1)) n=false):=by show _=_;rw [HD.out];unfold less;rw [hless];rfl
     have hxn:x.name≠n:=fun e=>by have:=less_irrefl n;unfold less at this;rw [e,this] at hless;cases hless
     have hq2:(x.name.toList==n.toList)=false:=beq_ne hxn
     have hq:(x.name.toList !=n.toList)=true:=by simp [bne,hq2]
     clear HEarly HAt HLate hxn HI
     go_wp2
     go_quiet (fail)
     have bq:Below wr.heap.size wr (wr.drewN nq):=belowN (Below.refl _ _) _
     generalize wr.drewN nq=wa at *
     have hwa:Below (w.heap.size+3) W wa:=hwr.trans (bq.mono (Nat.le_trans hzW2 hwr.size))
     have owa:=own_below owr bq
     have zwa:w.heap.size+3<=wa.heap.size:=Nat.le_trans hzW2 hwa.size
     have lwa:b'<wa.heap.size:=by omega
     clear c0 c1 u1 u2 v0 v1 v2 v3 v4 v5 v6
     obtain ⟨v0,v1,v2,v3,v4,v5,v6,v7⟩:=sbox_of (HX.out _ hwa).1
     obtain ⟨u1,_⟩:=(HX.out _ hwa).2.1 1 _ rfl
     obtain ⟨u2,_⟩:=(HX.out _ hwa).2.1 2 _ rfl
     obtain ⟨c0,c1⟩:=HC.out wa hwa
     go_wp2
     go_quiet (fail)
     have bq:Below wa.heap.size wa (wa.drewN nq):=belowN (Below.refl _ _) _
     generalize wa.drewN nq=wb at *
     have hwb:Below (w.heap.size+3) W wb:=hwa.trans (bq.mono (Nat.le_trans hzW2 hwa.size))
     have owb:=own_below owa bq
     have zwb:w.heap.size+3<=wb.heap.size:=Nat.le_trans hzW2 hwb.size
     have lwb:b'<wb.heap.size:=by omega
     clear c0 c1 u1 u2 v0 v1 v2 v3 v4 v5 v6
     obtain ⟨v0,v1,v2,v3,v4,v5,v6,v7⟩:=sbox_of (HX.out _ hwb).1
     obtain ⟨u1,_⟩:=(HX.out _ hwb).2.1 1 _ rfl
     obtain ⟨u2,_⟩:=(HX.out _ hwb).2.1 2 _ rfl
     obtain ⟨c0,c1⟩:=HC.out wb hwb
     obtain ⟨g8,cap8,wc,hrwc,howc,hgwc,_⟩:=ppush wb (w.heap.size+3) _ gk owb x (by first|omega|(simp;omega)) zwb 25
     have hwc:Below (w.heap.size+3) W wc:=hwb.trans ((Below.refl _ _).grown hgwc zwb (fun q e=>(own_lt owb e).1))
     have zwc:w.heap.size+3<=wc.heap.size:=Nat.le_trans hzW2 hwc.size
     have lwc:b'<wc.heap.size:=by omega
     have owc:=howc
     clear howc hgwc
     go_wp2_with (at_builtin;refine wpList_append_run rfl _ _ 25 25 rfl rfl rfl hrwc ?_)
     clear hrwc
     clear c0 c1 u1 u2 v0 v1 v2 v3 v4 v5 v6
     obtain ⟨v0,v1,v2,v3,v4,v5,v6,v7⟩:=sbox_of (HX.out _ hwc).1
     obtain ⟨u1,_⟩:=(HX.out _ hwc).2.1 1 _ rfl
     obtain ⟨u2,_⟩:=(HX.out _ hwc).2.1 2 _ rfl
     obtain ⟨c0,c1⟩:=HC.out wc hwc
     have HO:Hid _:=And.intro owc hwc
     clear owc hwc
     go_wp2
     exact ⟨⟨k+1,g8,cap8,by omega,by go_num,by rw [HD'.out],by rw [HE.out];simp,⟨by rw [HE.out];simpa using HO.out.1,HO.out.2⟩⟩,by simp [intOf];omega⟩
    |false=>
     have HEa:Hid _:=HAt.out rfl hless
     have HD':Hid (pinD (ps.take (k+1)) n=true):=by show _=_;rw [HD.out];unfold less;rw [hless];rfl
     by_cases hxn:x.name=n
     ·have hq2:(x.name.toList==n.toList)=true:=by rw [hxn];simp
      have hq:(x.name.toList !=n.toList)=false:=by rw [hxn];simp
      have HE:Hid (pinQ (ps.take (k+1)) n s=gk++[⟨n,s⟩]):=by show _=_;rw [HEa.out,if_pos hxn,List.append_nil]
      clear HEarly HAt HLate hxn HI HEa
      go_wp2
      go_quiet (fail)
      have bq:Below wr.heap.size wr (wr.drewN nq):=belowN (Below.refl _ _) _
      generalize wr.drewN nq=wa at *
      have hwa:Below (w.heap.size+3) W wa:=hwr.trans (bq.mono (Nat.le_trans hzW2 hwr.size))
      have owa:=own_below owr bq
      have zwa:w.heap.size+3<=wa.heap.size:=Nat.le_trans hzW2 hwa.size
      have lwa:b'<wa.heap.size:=by omega
      clear c0 c1 u1 u2 v0 v1 v2 v3 v4 v5 v6
      obtain ⟨v0,v1,v2,v3,v4,v5,v6,v7⟩:=sbox_of (HX.out _ hwa).1
      obtain ⟨u1,_⟩:=(HX.out _ hwa).2.1 1 _ rfl
      obtain ⟨u2,_⟩:=(HX.out _ hwa).2.1 2 _ rfl
      obtain ⟨c0,c1⟩:=HC.out wa hwa
      obtain ⟨g8,cap8,wc,hrwc,howc,hgwc,_⟩:=ppush wa (w.heap.size+3) _ gk owa ⟨n,s⟩ (by first|omega|(simp;omega)) zwa 25
      have hwc:Below (w.heap.size+3) W wc:=hwa.trans ((Below.refl _ _).grown hgwc zwa (fun q e=>(own_lt owa e).1))
      have zwc:w.heap.size+3<=wc.heap.size:=Nat.le_trans hzW2 hwc.size
      have lwc:b'<wc.heap.size:=by omega
      have owc:=howc
      clear howc hgwc
      go_wp2_with (at_builtin;refine wpList_append_run rfl _ _ 25 25 rfl rfl rfl hrwc ?_)
      clear hrwc
      clear c0 c1 u1 u2 v0 v1 v2 v3 v4 v5 v6
      obtain ⟨v0,v1,v2,v3,v4,v5,v6,v7⟩:=sbox_of (HX.out _ hwc).1
      obtain ⟨u1,_⟩:=(HX.out _ hwc).2.1 1 _ rfl
      obtain ⟨u2,_⟩:=(HX.out _ hwc).2.1 2 _ rfl
      obtain ⟨c0,c1⟩:=HC.out wc hwc
      go_wp2
      go_quiet (fail)
      have bq:Below wc.heap.size wc (wc.drewN nq):=belowN (Below.refl _ _) _
      generalize wc.drewN nq=wd at *
      have hwd:Below (w.heap.size+3) W wd:=hwc.trans (bq.mono (Nat.le_trans hzW2 hwc.size))
      have owd:=own_below owc bq
      have zwd:w.heap.size+3<=wd.heap.size:=Nat.le_trans hzW2 hwd.size
      have lwd:b'<wd.heap.size:=by omega
      clear c0 c1 u1 u2 v0 v1 v2 v3 v4 v5 v6
      obtain ⟨v0,v1,v2,v3,v4,v5,v6,v7⟩:=sbox_of (HX.out _ hwd).1
      obtain ⟨u1,_⟩:=(HX.out _ hwd).2.1 1 _ rfl
      obtain ⟨u2,_⟩:=(HX.out _ hwd).2.1 2 _ rfl
      obtain ⟨c0,c1⟩:=HC.out wd hwd
      have HO:Hid _:=And.intro owd hwd
      clear owd hwd
      go_wp2
      exact ⟨⟨k+1,g8,cap8,by omega,by go_num,by rw [HD'.out],by rw [HE.out];simp,⟨by rw [HE.out];simpa using HO.out.1,HO.out.2⟩⟩,by simp [intOf];omega⟩
     ·have hq2:(x.name.toList==n.toList)=false:=beq_ne hxn
      have hq:(x.name.toList !=n.toList)=true:=by simp [bne,hq2]
      have HE:Hid (pinQ (ps.take (k+1)) n s=(gk++[⟨n,s⟩])++[x]):=by show _=_;rw [HEa.out,if_neg hxn]
      clear HEarly HAt HLate hxn HI HEa
      go_wp2
      go_quiet (fail)
      have bq:Below wr.heap.size wr (wr.drewN nq):=belowN (Below.refl _ _) _
      generalize wr.drewN nq=wa at *
      have hwa:Below (w.heap.size+3) W wa:=hwr.trans (bq.mono (Nat.le_trans hzW2 hwr.size))
      have owa:=own_below owr bq
      have zwa:w.heap.size+3<=wa.heap.size:=Nat.le_trans hzW2 hwa.size
      have lwa:b'<wa.heap.size:=by omega
      clear c0 c1 u1 u2 v0 v1 v2 v3 v4 v5 v6
      obtain ⟨v0,v1,v2,v3,v4,v5,v6,v7⟩:=sbox_of (HX.out _ hwa).1
      obtain ⟨u1,_⟩:=(HX.out _ hwa).2.1 1 _ rfl
      obtain ⟨u2,_⟩:=(HX.out _ hwa).2.1 2 _ rfl
      obtain ⟨c0,c1⟩:=HC.out wa hwa
      obtain ⟨g8,cap8,wc,hrwc,howc,hgwc,_⟩:=ppush wa (w.heap.size+3) _ gk owa ⟨n,s⟩ (by first|omega|(simp;omega)) zwa 25
      have hwc:Below (w.heap.size+3) W wc:=hwa.trans ((Below.refl _ _).grown hgwc zwa (fun q e=>(own_lt owa e).1))
      have zwc:w.heap.size+3<=wc.heap.size:=Nat.le_trans hzW2 hwc.size
      have lwc:b'<wc.heap.size:=by omega
      have owc:=howc
      clear howc hgwc
      go_wp2_with (at_builtin;refine wpList_append_run rfl _ _ 25 25 rfl rfl rfl hrwc ?_)
      clear hrwc
      clear c0 c1 u1 u2 v0 v1 v2 v3 v4 v5 v6
      obtain ⟨v0,v1,v2,v3,v4,v5,v6,v7⟩:=sbox_of (HX.out _ hwc).1
      obtain ⟨u1,_⟩:=(HX.out _ hwc).2.1 1 _ rfl
      obtain ⟨u2,_⟩:=(HX.out _ hwc).2.1 2 _ rfl
      obtain ⟨c0,c1⟩:=HC.out wc hwc
      go_wp2
      go_quiet (fail)
      have bq:Below wc.heap.size wc (wc.drewN nq):=belowN (Below.refl _ _) _
      generalize wc.drewN nq=wd at *
      have hwd:Below (w.heap.size+3) W wd:=hwc.trans (bq.mono (Nat.le_trans hzW2 hwc.size))
      have owd:=own_below owc bq
      have zwd:w.heap.size+3<=wd.heap.size:=Nat.le_trans hzW2 hwd.size
      have lwd:b'<wd.heap.size:=by omega
      clear c0 c1 u1 u2 v0 v1 v2 v3 v4 v5 v6
      obtain ⟨v0,v1,v2,v3,v4,v5,v6,v7⟩:=sbox_of (HX.out _ hwd).1
      obtain ⟨u1,_⟩:=(HX.out _ hwd).2.1 1 _ rfl
      obtain ⟨u2,_⟩:=(HX.out _ hwd).2.1 2 _ rfl
      obtain ⟨c0,c1⟩:=HC.out wd hwd
      obtain ⟨g9,cap9,we,hrwe,howe,hgwe,_⟩:=ppush wd (w.heap.size+3) _ (gk++[⟨n,s⟩]) owd x (by first|omega|(simp;omega)) zwd 25
      have hwe:Below (w.heap.size+3) W we:=hwd.trans ((Below.refl _ _).grown hgwe zwd (fun q e=>(own_lt owd e).1))
      have zwe:w.heap.size+3<=we.heap.size:=Nat.le_trans hzW2 hwe.size
      have lwe:b'<we.heap.size:=by omega
      have owe:=howe
      clear howe hgwe
      go_wp2_with (at_builtin;refine wpList_append_run rfl _ _ 25 25 rfl rfl rfl hrwe ?_)
      clear hrwe
      clear c0 c1 u1 u2 v0 v1 v2 v3 v4 v5 v6
      obtain ⟨v0,v1,v2,v3,v4,v5,v6,v7⟩:=sbox_of (HX.out _ hwe).1
      obtain ⟨u1,_⟩:=(HX.out _ hwe).2.1 1 _ rfl
      obtain ⟨u2,_⟩:=(HX.out _ hwe).2.1 2 _ rfl
      obtain ⟨c0,c1⟩:=HC.out we hwe
      have HO:Hid _:=And.intro owe hwe
      clear owe hwe
      go_wp2
      exact ⟨⟨k+1,g9,cap9,by omega,by go_num,by rw [HD'.out],by rw [HE.out];simp,⟨by rw [HE.out];simpa using HO.out.1,HO.out.2⟩⟩,by simp [intOf];omega⟩
  ·obtain rfl:k=ps.length:=by omega
   have hO:=HI.out.1
   rw [List.take_of_length_le (Nat.le_refl _)] at hO ⊢
   have HBr:Hid (Below w.heap.size w wr):=hbr
   cases hDn:pinD ps n with
   |true=>
    have hPe:=pinQ_yes n s hDn
    rw [hPe] at hO ⊢
    have HO:Hid (wr.ownsRow (w.heap.size+3) 134 2 (.slice (some ⟨g,0,none⟩) (pinP ps n s).length c) (pinP ps n s).length (rowC pC (pinP ps n s))):=hO
    have hPl:=pinQ_len ps n s
    rw [hPe] at hPl
    have f5:=((HX.out _ HI.out.2).1 5 _ rfl).2
    obtain ⟨⟨y0,q0⟩,⟨y1,q1⟩,⟨y2,q2⟩,⟨y3,q3⟩,⟨y4,q4⟩,⟨y5,q5⟩,⟨y6,q6⟩,⟨y7,q7⟩,⟨y8,q8⟩,⟨y9,q9⟩,⟨y10,q10⟩,y11,q11⟩:=z12at (HX.out _ HI.out.2).2.2
    clear hDn hPe hbr HI u1 u2
    by_cases hbig:100<(pinP ps n s).length
    ·have hq:(100:Int)<((pinP ps n s).length:Int):=by omega
     have HEx:Hid (100<(pinP ps n s).length):=hbig
     clear hbig hO
     go_wp2
     refine bodyPost_ret (v:=.agg #[.int .i64 4,.int .i64 0,.int .i64 0,.int .i64 0,.int .i64 0,.slice none 0 0,.slice none 0 0,.slice none 0 0,.string ⟨#[]⟩,.int .i64 0,.string ⟨#[]⟩,.string ⟨#[]⟩]) (by simp [results,Tryz.results86,go_sem,y0,y1,y2,y3,y4,y5,y6,y7,y8,y9,y10,y11]) rfl ?_
     exact ⟨HBr.out.trans (Tn.below (tn12 wr (w.heap.size+2) _ _ _ _ _ _ _ _ _ _ _ _) HBr.out.size (by intro v hv;simp at hv;omega)),.inl ⟨HEx.out,rfl⟩⟩
    ·have hq:¬(100:Int)<((pinP ps n s).length:Int):=by omega
     have HEx:Hid ((pinP ps n s).length<=100):=by show _<=_;omega
     clear hbig hO
     go_wp2
     refine bodyPost_ret (v:=.agg #[.int .i64 0,.int .i64 wd,.int .i64 now,.int .i64 given,.int .i64 births,.slice ta ks.length tc,.slice (some ⟨g,0,none⟩) (pinP ps n s).length c,.slice la ln lc,.string ⟨#[]⟩,.int .i64 0,.string ⟨#[]⟩,.string ⟨#[]⟩]) (by simp [results,Tryz.results86,go_sem,y0,y1,y2,y3,y4,y5,y6,y7,y8,y9,y10,y11]) rfl ?_
     have T':=(Tn.set (V:=[w.heap.size,w.heap.size+2]) wr w.heap.size 5 (.slice (some ⟨g,0,none⟩) (pinP ps n s).length c) (by simp)).trans (Tn.mono (tn12 (wr.setCell ⟨w.heap.size,5,none⟩ (.slice (some ⟨g,0,none⟩) (pinP ps n s).length c)) (w.heap.size+2) (.int .i64 0) (.int .i64 wd) (.int .i64 now) (.int .i64 given) (.int .i64 births) (.slice ta ks.length tc) (.slice (some ⟨g,0,none⟩) (pinP ps n s).length c) (.slice la ln lc) (.string ⟨#[]⟩) (.int .i64 0) (.string ⟨#[]⟩) (.string ⟨#[]⟩)) (by simp))
     exact ⟨HBr.out.trans (T'.below HBr.out.size (by intro v hv;simp at hv;omega)),.inr ⟨HEx.out,g,c,rfl,(own_same HO.out (fun q hq=>T'.block q (own_lt HO.out hq).2 (by have:=(own_lt HO.out hq).1;simp;omega))).mono (by omega)⟩⟩
   |false=>
    have hQl:=pinQ_len ps n s
    have hPe:=pinQ_no n s hDn
    obtain ⟨g8,cap8,w8,hr8,ho8,hg8,hk8⟩:=ppush wr (w.heap.size+3) _ (pinQ ps n s) hO ⟨n,s⟩ (by omega) hzr 25
    have b8:Below (w.heap.size+3) wr w8:=(Below.refl _ _).grown hg8 hzr (fun q e=>(own_lt hO e).1)
    have hB8:Below (w.heap.size+3) W w8:=HI.out.2.trans b8
    have HBr:Hid (Below w.heap.size w w8):=HBr.out.trans (b8.mono (by omega))
    have HPl:Hid ((pinP ps n s).length=(pinQ ps n s).length+1):=by show _=_;rw [←hPe];simp
    rw [hPe,HPl.out] at ho8
    have HO:Hid (w8.ownsRow (w.heap.size+3) 134 2 (.slice (some ⟨g8,0,none⟩) ((pinQ ps n s).length+1) cap8) ((pinQ ps n s).length+1) (rowC pC (pinP ps n s))):=ho8
    have f5:=((HX.out _ hB8).1 5 _ rfl).2
    obtain ⟨⟨y0,q0⟩,⟨y1,q1⟩,⟨y2,q2⟩,⟨y3,q3⟩,⟨y4,q4⟩,⟨y5,q5⟩,⟨y6,q6⟩,⟨y7,q7⟩,⟨y8,q8⟩,⟨y9,q9⟩,⟨y10,q10⟩,y11,q11⟩:=z12at (HX.out _ hB8).2.2
    obtain ⟨z0,z1,z2,z3,z4,z5,z6,z7⟩:=sbox_of (HX.out _ hB8).1
    clear hDn hPe hbr HI b8 hg8 hk8 ho8 hB8 hO
    by_cases hbig:100<((pinQ ps n s).length+1)
    ·have hq:(100:Int)<((pinQ ps n s).length:Int)+1:=by omega
     have HEx:Hid (100<(pinP ps n s).length):=by show _<_;rw [HPl.out];exact hbig
     clear hbig
     go_wp2_with (at_builtin;refine wpList_append_run rfl _ _ 25 25 rfl rfl rfl hr8 ?_)
     refine bodyPost_ret (v:=.agg #[.int .i64 4,.int .i64 0,.int .i64 0,.int .i64 0,.int .i64 0,.slice none 0 0,.slice none 0 0,.slice none 0 0,.string ⟨#[]⟩,.int .i64 0,.string ⟨#[]⟩,.string ⟨#[]⟩]) (by simp [results,Tryz.results86,go_sem,y0,y1,y2,y3,y4,y5,y6,y7,y8,y9,y10,y11]) rfl ?_
     exact ⟨HBr.out.trans (Tn.below (tn12 w8 (w.heap.size+2) _ _ _ _ _ _ _ _ _ _ _ _) HBr.out.size (by intro v hv;simp at hv;omega)),.inl ⟨HEx.out,rfl⟩⟩
    ·have hq:¬(100:Int)<((pinQ ps n s).length:Int)+1:=by omega
     have hq':¬(100:Int)<(((pinQ ps n s).length+1:Nat):Int):=by omega
     have HEx:Hid ((pinP ps n s).length<=100):=by show _<=_;rw [HPl.out];omega
     clear hbig
     go_wp2_with (at_builtin;refine wpList_append_run rfl _ _ 25 25 rfl rfl rfl hr8 ?_)
     refine bodyPost_ret (v:=.agg #[.int .i64 0,.int .i64 wd,.int .i64 now,.int .i64 given,.int .i64 births,.slice ta ks.length tc,.slice (some ⟨g8,0,none⟩) ((pinQ ps n s).length+1) cap8,.slice la ln lc,.string ⟨#[]⟩,.int .i64 0,.string ⟨#[]⟩,.string ⟨#[]⟩]) (by simp [results,Tryz.results86,go_sem,y0,y1,y2,y3,y4,y5,y6,y7,y8,y9,y10,y11]) rfl ?_
     have T':=(Tn.set (V:=[w.heap.size,w.heap.size+2]) w8 w.heap.size 5 (.slice (some ⟨g8,0,none⟩) ((pinQ ps n s).length+1) cap8) (by simp)).trans (Tn.mono (tn12 (w8.setCell ⟨w.heap.size,5,none⟩ (.slice (some ⟨g8,0,none⟩) ((pinQ ps n s).length+1) cap8)) (w.heap.size+2) (.int .i64 0) (.int .i64 wd) (.int .i64 now) (.int .i64 given) (.int .i64 births) (.slice ta ks.length tc) (.slice (some ⟨g8,0,none⟩) ((pinQ ps n s).length+1) cap8) (.slice la ln lc) (.string ⟨#[]⟩) (.int .i64 0) (.string ⟨#[]⟩) (.string ⟨#[]⟩)) (by simp))
     have hOf:=(own_same HO.out (fun q hq=>T'.block q (own_lt HO.out hq).2 (by have:=(own_lt HO.out hq).1;simp;omega))).mono (show w.heap.size<=w.heap.size+3 by omega)
     refine ⟨HBr.out.trans (T'.below HBr.out.size (by intro v hv;simp at hv;omega)),.inr ⟨HEx.out,g8,cap8,by rw [HPl.out],?_⟩⟩
     rw [HPl.out]
     exact hOf
end Go.Proofs.YtpekbmegopfhfaaGreatDoor
namespace Go.Proofs.YtpekbmegopfhfaaGreatDoor
theorem run_copy_wide {P:Program} (w:World) (dT sT ty elem:TypeId) (i:TypeInfo) (k b o dLen dCap:Nat) (a:Addr) (sLen sCap:Nat) (cs:List Value)
 (hu:P.underlying dT=some (.slice elem)) (hi:P.info? elem=some i) (hk:i.size=k) (hn:cs.length=Nat.min sLen dLen *k)
 (hsrc:∀j v,cs[j]?=some v->w.cell? (a.add j)=some v) (hc:∀j,j<cs.length->(w.cell? ⟨b,o+j,none⟩).isSome=true) (hf:∀j,j<cs.length->w.frozen? ⟨b,o+j,none⟩=false) (h1:∀v∈cs,v.oneCell'=true):
 (Builtin.copy_ #[dT,sT] ty #[.slice (some ⟨b,o,none⟩) dLen dCap,.slice (some a) sLen sCap]).run P w=.ok (goInt (Nat.min sLen dLen)) (w.setCells b o cs):=by
 have hl:=run_loadCells_list (P:=P) w a cs hsrc
 have hst:=run_storeCells_cells (P:=P) b o cs 0 w (by simpa using hc) (by simpa using hf) h1
 rw [hn] at hl
 subst hk
 simp [Builtin.copy_,run_underlying hu,Builtin.lenOf,Builtin.firstCells,sizeOf,typeInfo,hi,hl,hst]
theorem heap_setCells (g:Nat) (t:TypeId) (fr:Nat×Nat):∀(vs:List Value) (o:Nat) (w:World) (cur:Array Value),w.heap[g]?=some (.cells cur t fr)->o+vs.length<=cur.size->
 (w.setCells g o vs).heap[g]?=some (.cells (cur.toList.take o++vs++cur.toList.drop (o+vs.length)).toArray t fr)
 |[],o,w,cur,hg,_=>by simpa [World.setCells] using hg
 |v::r,o,w,cur,hg,hl=>by
  simp only [List.length_cons] at hl
  rw [World.setCells]
  have h1:(w.setCell ⟨g,o,none⟩ v).heap[g]?=some (.cells (cur.setIfInBounds o v) t fr):=by
   rw [setCell_eq_setRow w g o cur t fr v hg]
   exact setRow_heap w g cur _ t _ hg
  rw [heap_setCells g t fr r (o+1) _ _ h1 (by simp;omega)]
  have e:=list_seg_step cur.toList o v r (by simp;omega)
  simp only [Array.toList_setIfInBounds,List.length_cons]
  rw [e]
theorem own_shift {w:World} {base g cap n k i:Nat} {e:TypeId} {xs vs:List Value} (h:w.ownsRow base e k (.slice (some ⟨g,0,none⟩) n cap) n xs) (hi:i<=n) (hv:vs.length=k) (hr:n+1<=cap):
 ((w.setCells g ((i+1) *k) (xs.drop (i *k))).setCells g (i *k) vs).ownsRow base e k (.slice (some ⟨g,0,none⟩) (n+1) cap) (n+1) (xs.take (i *k)++vs++xs.drop (i *k)):=by
 obtain ⟨hx,hq⟩:=h
 rcases hq with ⟨e,_⟩|⟨g',cap',cur,e,hb,hg,h1,h2,h3,h4⟩
 ·cases e
 ·cases e
  have m1:i *k<=n *k:=Nat.mul_le_mul_right k hi
  have m2:(n+1) *k<=cap *k:=Nat.mul_le_mul_right k hr
  rw [Nat.add_mul] at m2 ⊢
  have hlen:(xs.take (i *k)++vs++xs.drop (i *k)).length=n *k+k:=by rw [List.length_append,List.length_append,List.length_take,List.length_drop,hx,hv];omega
  have hnk:(n+1) *k=n *k+k:=by rw [Nat.add_mul];omega
  have hdl:(xs.drop (i *k)).length=n *k -i *k:=by rw [List.length_drop,hx]
  have e1:=heap_setCells g e (0,0) (xs.drop (i *k)) (i *k+1 *k) w cur hg (by rw [hdl,h3];omega)
  have e2:=heap_setCells g e (0,0) vs (i *k) _ _ e1 (by simp [hdl,h3,hv];omega)
  refine ⟨by rw [hlen,hnk],.inr ⟨g,cap,_,rfl,hb,e2,hr,h2,?_,?_⟩⟩
  ·simp [hdl,h3,hv];omega
  ·have t1:(cur.toList.take (i *k+1 *k)++xs.drop (i *k)++cur.toList.drop (i *k+1 *k+(xs.drop (i *k)).length)).take (i *k)=xs.take (i *k):=by
    rw [List.append_assoc,List.take_append_of_le_length (by simp [h3];omega),List.take_take,Nat.min_eq_left (by omega),←h4,List.take_take,Nat.min_eq_left (by omega)]
   have t2:(cur.toList.take (i *k+1 *k)++xs.drop (i *k)++cur.toList.drop (i *k+1 *k+(xs.drop (i *k)).length)).drop (i *k+vs.length)=xs.drop (i *k)++cur.toList.drop (i *k+1 *k+(xs.drop (i *k)).length):=by
    rw [List.append_assoc,List.drop_append_of_le_length (by simp [h3,hv];omega),List.drop_eq_nil_of_le (by simp [h3,hv];omega),List.nil_append]
   rw [List.toList_toArray,List.toList_toArray,t1,t2,←List.append_assoc,List.take_append_of_le_length (by rw [hlen,hnk];exact Nat.le_refl _),List.take_of_length_le (by rw [hlen,hnk];exact Nat.le_refl _)]
theorem own_grow {w:World} {base g n k i G:Nat} {e:TypeId} {xs vs zs:List Value} (hx:xs.length=n *k) (hi:i<=n) (hv:vs.length=k) (hb:base<=g) (hg:w.heap[g]?=some (.cells (xs.take (i *k)++zs).toArray e (0,0))) (hz:i *k+zs.length=G *k) (hG:n+1<=G) (hG2:G<=maxLen):
 ((w.setCells g (i *k) vs).setCells g ((i+1) *k) (xs.drop (i *k))).ownsRow base e k (.slice (some ⟨g,0,none⟩) (n+1) G) (n+1) (xs.take (i *k)++vs++xs.drop (i *k)):=by
 have m1:i *k<=n *k:=Nat.mul_le_mul_right k hi
 have m2:(n+1) *k<=G *k:=Nat.mul_le_mul_right k hG
 rw [Nat.add_mul] at m2 ⊢
 have hlen:(xs.take (i *k)++vs++xs.drop (i *k)).length=n *k+k:=by rw [List.length_append,List.length_append,List.length_take,List.length_drop,hx,hv];omega
 have hnk:(n+1) *k=n *k+k:=by rw [Nat.add_mul];omega
 have htl:(xs.take (i *k)).length=i *k:=by rw [List.length_take,hx];omega
 have hdl:(xs.drop (i *k)).length=n *k -i *k:=by rw [List.length_drop,hx]
 have e1:=heap_setCells g e (0,0) vs (i *k) w _ hg (by simp [htl,hv];omega)
 have e2:=heap_setCells g e (0,0) (xs.drop (i *k)) (i *k+1 *k) _ _ e1 (by simp [hdl,hv,htl];omega)
 refine ⟨by rw [hlen,hnk],.inr ⟨g,G,_,rfl,hb,e2,hG,hG2,?_,?_⟩⟩
 ·simp [hdl,hv,htl];omega
 ·have t1:(xs.take (i *k)++zs).take (i *k)=xs.take (i *k):=by rw [List.take_append_of_le_length (by omega),List.take_of_length_le (by omega)]
  have t2:((xs.take (i *k)++zs).take (i *k)++vs++(xs.take (i *k)++zs).drop (i *k+vs.length)).take (i *k+1 *k)=xs.take (i *k)++vs:=by
   rw [t1,List.take_append_of_le_length (by simp [hv,htl]),List.take_of_length_le (by simp [hv,htl])]
  rw [t2,List.take_append_of_le_length (by rw [hlen,hnk];exact Nat.le_refl _),List.take_of_length_le (by rw [hlen,hnk];exact Nat.le_refl _)]
theorem some_setC (b:Nat) (vs:List Value) (o:Nat) (w:World) (h:∀j,j<vs.length->(w.cell? ⟨b,o+j,none⟩).isSome=true) (k:Nat) (hk:(w.cell? ⟨b,k,none⟩).isSome=true):((w.setCells b o vs).cell? ⟨b,k,none⟩).isSome=true:=by
 by_cases hin:o<=k/\k<o+vs.length
 ·obtain ⟨j,rfl⟩:∃j,k=o+j:=⟨k -o,by omega⟩
  rw [World.cell?_setCells_in b vs o w h j (by omega)]
  rfl
 ·rw [World.cell?_setCells_out b vs o w _ (fun _ _=>by show k<o∨o+vs.length<=k;omega)]
  exact hk
theorem drew_setC (b:Nat):∀(vs:List Value) (o:Nat) (w:World),(w.setCells b o vs).drew=w.drew.setCells b o vs
 |[],_,_=>rfl
 |v::r,o,w=>by rw [World.setCells,World.setCells,drew_setC b r];rfl
theorem drew_cellC (w:World) (a:Addr):w.drew.cell? a=w.cell? a:=rfl
theorem drew_frozenC (w:World) (a:Addr):w.drew.frozen? a=w.frozen? a:=rfl
theorem grown_drewC (w:World) (r:Option Nat):w.grownBy w.drew r:=⟨rfl,rfl,rfl,Nat.le_refl _,fun _ _ _=>rfl⟩
theorem wpList_copy_known {P:Program} (w:World) {ops:Array Oper} {rest:List Oper} {o:Oper} {a:Act} {Q:Exit->Act->World->Prop} (hg:o.guard=none) (d s:Operand) (t t':TypeId)
 (ho:o.op=.call {callee:=.builtin .copy,args:= #[d,s],argTypes:= #[t,t']}) (v u:Value) (hd:a.eval d=v) (hs:a.eval s=u) {v':Value} {w':World}
 (hr:(Builtin.copy_ #[t,t'] o.type #[v,u]).run P w=.ok v' w') (h:wpList P ops Q rest (a.put o.dst v') w'):wpList P ops Q (o::rest) a w:=by
 refine wpList_plain hg fun K hK=> ?_
 unfold Oper.wp
 simp [execOp,ho,resolve,invoke,builtin,hd,hs,hr,Result.andThen]
 exact hK _ _ h
theorem step_copy_known {P:Program} {ops:Array Oper} {o:Oper} {a:Act} {w:World} {K:Act->World->Prop} {Q:Exit->Act->World->Prop} {E:Prop}
 (hg:o.guard=none) (d s:Operand) (t t':TypeId) (ho:o.op=.call {callee:=.builtin .copy,args:= #[d,s],argTypes:= #[t,t']})
 (v u:Value) (hd:a.eval d=v) (hs:a.eval s=u) {v':Value} {w':World} (hr:(Builtin.copy_ #[t,t'] o.type #[v,u]).run P w=.ok v' w') (hK:K (a.put o.dst v') w'):
 if Region.wanted o (yielded ops a.tmps)=true then Oper.wp P o a w K Q else E:=by
 rw [if_pos (by simp [Region.wanted,hg])]
 unfold Oper.wp
 simp [execOp,ho,resolve,invoke,builtin,hd,hs,hr,Result.andThen]
 exact hK
end Go.Proofs.YtpekbmegopfhfaaGreatDoor
