import Derived.Test.YthkmpihfhkmaoaaGreatDoorV23
import Derived.Test.YthkmpihfhkmaoaaGreatDoorV14
import Derived.Test.YthkmpihfhkmaoaaGreatDoorV13
import Derived.Test.YthkmpihfhkmaoaaGreatDoorV18
import Derived.Test.YthkmpihfhkmaoaaGreatDoorV15
import Derived.Test.YthkmpihfhkmaoaaGreatDoorV16
import Derived.Test.YthkmpihfhkmaoaaGreatDoorV22
namespace Go.Proofs.YthkmpihfhkmaoaaGreatDoor
open Go.ChangeShapes Go.WideShapes Go.ChangeAt Go.RowKit
def pinD (ps:List Pd) (n:ByteArray):Bool:= !(ps.all (fun x=>less x.name n))
def pinQ (ps:List Pd) (n s:ByteArray):List Pd:=ps.filter (fun x=>less x.name n)++(if pinD ps n then [⟨n,s⟩] else [])++ps.filter (fun x=> !(less x.name n)&& !decide (x.name=n))
theorem pinD_snoc {ps:List Pd} {k:Nat} {x:Pd} (n:ByteArray) (hx:ps[k]?=some x):pinD (ps.take (k+1)) n=(pinD (ps.take k) n|| !(less x.name n)):=by
 obtain⟨hlt,rfl⟩:=List.getElem?_eq_some_iff.1 hx;unfold pinD;rw[List.take_succ_eq_append_getElem hlt,List.all_append];simp
theorem pinQ_above {ps:List Pd} {n:ByteArray} (h:pinD ps n=false):ps.filter (fun x=> !(less x.name n)&& !decide (x.name=n))=[]:=by
 rw[List.filter_eq_nil_iff];intro x hx;have:less x.name n=true:=by
  unfold pinD at h;simp only[Bool.not_eq_false'] at h;exact List.all_eq_true.1 h x hx
 simp[this]
theorem pinQ_early {ps:List Pd} {k:Nat} {x:Pd} (n s:ByteArray) (hx:ps[k]?=some x) (hd:pinD (ps.take k) n=false) (hl:less x.name n=true):pinQ (ps.take (k+1)) n s=pinQ (ps.take k) n s++[x]:=by
 have h1:=pinD_snoc n hx;rw[hd,hl] at h1;unfold pinQ;rw[pinQ_above hd,pinQ_above (by rw[h1];rfl),h1,hd];obtain⟨hlt,rfl⟩:=List.getElem?_eq_some_iff.1 hx;rw[List.take_succ_eq_append_getElem hlt,List.filter_append];simp[hl]
theorem pinQ_at {ps:List Pd} {k:Nat} {x:Pd} (n s:ByteArray) (hx:ps[k]?=some x) (hd:pinD (ps.take k) n=false) (hl:less x.name n=false):pinQ (ps.take (k+1)) n s=pinQ (ps.take k) n s++[⟨n,s⟩]++(if x.name=n then [] else [x]):=by
 have h1:=pinD_snoc n hx;rw[hd,hl] at h1;unfold pinQ;rw[pinQ_above hd,h1,hd];have ha:=pinQ_above hd;obtain⟨hlt,rfl⟩:=List.getElem?_eq_some_iff.1 hx;rw[List.take_succ_eq_append_getElem hlt,List.filter_append,List.filter_append,ha];by_cases hn:ps[k].name=n
 ·simp[hn,less_irrefl]
 ·simp[hl,hn]
theorem pinQ_late {ps:List Pd} {k:Nat} {x:Pd} (n s:ByteArray) (hsort:ps.Pairwise (fun a b=>less a.name b.name=true)) (hx:ps[k]?=some x) (hd:pinD (ps.take k) n=true):x.name≠n/\pinQ (ps.take (k+1)) n s=pinQ (ps.take k) n s++[x]:=by
 have h1:=pinD_snoc n hx;rw[hd,Bool.true_or] at h1;obtain⟨hlt,rfl⟩:=List.getElem?_eq_some_iff.1 hx;obtain⟨y,hy,hyn⟩:∃y∈ps.take k,less y.name n=false:=by
  unfold pinD at hd;simpa using hd
 obtain⟨j,hj⟩:=List.getElem?_of_mem hy;obtain⟨hjl,e⟩:=List.getElem?_eq_some_iff.1 hj;rw[List.length_take] at hjl;rw[List.getElem_take] at e;have hlt2:=List.pairwise_iff_getElem.1 hsort j k (by omega) hlt (by omega);rw[e] at hlt2;have hl:less ps[k].name n=false:=by
  cases h:less ps[k].name n with
  |false=>rfl
  |true=>rw[less_trans hlt2 h] at hyn;cases hyn
 have hn:ps[k].name≠n:=fun e2=>by rw[e2] at hlt2;rw[hlt2] at hyn;cases hyn
 refine⟨hn,?_⟩;unfold pinQ;rw[h1,hd,List.take_succ_eq_append_getElem hlt,List.filter_append,List.filter_append];simp[hl,hn]
theorem pinQ_yes {ps:List Pd} (n s:ByteArray) (hd:pinD ps n=true):pinQ ps n s=pinP ps n s:=by
 unfold pinQ pinP;rw[hd];rfl
theorem pinQ_no {ps:List Pd} (n s:ByteArray) (hd:pinD ps n=false):pinQ ps n s++[⟨n,s⟩]=pinP ps n s:=by
 unfold pinQ pinP;rw[hd,pinQ_above hd];simp
theorem pinQ_len (ps:List Pd) (n s:ByteArray):(pinQ ps n s).length<=ps.length+1:=by
 have h:∀(l:List Pd),(l.filter (fun x=>less x.name n)).length+(l.filter (fun x=> !(less x.name n)&& !decide (x.name=n))).length<=l.length:=by
  intro l;induction l with
  |nil=>simp
  |cons x l ih=>
   rw[List.filter_cons,List.filter_cons];cases less x.name n<;>by_cases hn:x.name=n<;>simp[hn]<;>omega
 have:=h ps;unfold pinQ;rw[List.length_append,List.length_append];split<;>simp<;>omega
def PinTo (w w':World) (e:Ending) (wd now given births:Int) (T L:Value) (ps:List Pd) (n s:ByteArray):Prop:=
 Below w.heap.size w w'/\((100<(pinP ps n s).length/\e=.returned (.agg #[.int .i64 4,.int .i64 0,.int .i64 0,.int .i64 0,.int .i64 0,.slice none 0 0,.slice none 0 0,.slice none 0 0,.string ⟨#[]⟩,.int .i64 0,.string ⟨#[]⟩,.string ⟨#[]⟩]))∨
  ((pinP ps n s).length<=100/\∃g c,e=.returned (.agg #[.int .i64 0,.int .i64 wd,.int .i64 now,.int .i64 given,.int .i64 births,T,.slice (some ⟨g,0,none⟩) (pinP ps n s).length c,L,.string ⟨#[]⟩,.int .i64 0,.string ⟨#[]⟩,.string ⟨#[]⟩])/\w'.ownsRow w.heap.size 130 2 (.slice (some ⟨g,0,none⟩) (pinP ps n s).length c) (pinP ps n s).length (rowC pC (pinP ps n s))))
set_option maxRecDepth 20000 in
set_option maxHeartbeats 4000000 in
theorem l4Pin_any (wd now given births kind num:Int) (ta pa la ra:Option Addr) (tc pc lc ln rn rc:Nat) (ks:List Kd) (ps:List Pd) (n s text:ByteArray) (w:World) (hks:KRow w w.heap.size ta ks) (hrow:PRow w w.heap.size pa ps) (hkl:ks.length<=1000) (hl:ps.length<=1000) (hth:There ks s) (hsort:ps.Pairwise (fun a b=>less a.name b.name=true)):
 Calls Tryz.prog 86 #[.agg #[.int .i64 wd,.int .i64 now,.int .i64 given,.int .i64 births,.slice ta ks.length tc,.slice pa ps.length pc,.slice la ln lc],.agg #[.int .i64 kind,.string s,.string n,.int .i64 num,.string text,.slice ra rn rc]] w fun e w'=>PinTo w w' e wd now given births (.slice ta ks.length tc) (.slice la ln lc) ps n s:=by
 obtain⟨W,hW⟩:∃W,W=((w.alloc (.cells #[.int .i64 wd,.int .i64 now,.int .i64 given,.int .i64 births,.slice ta ks.length tc,.slice pa ps.length pc,.slice la ln lc] 38)).alloc (.cells #[.int .i64 kind,.string s,.string n,.int .i64 num,.string text,.slice ra rn rc] 45)).alloc (.cells #[.int .i64 0,.int .i64 0,.int .i64 0,.int .i64 0,.int .i64 0,.slice none 0 0,.slice none 0 0,.slice none 0 0,.string ⟨#[]⟩,.int .i64 0,.string ⟨#[]⟩,.string ⟨#[]⟩] 40):=⟨_,rfl⟩
 have bW:Below w.heap.size w W:=by rw[hW];exact(((Below.refl _ _).alloc (Nat.le_refl _) _).alloc (by simp) _).alloc (by simp;omega) _
 have hzW:W.heap.size=w.heap.size+3:=by rw[hW];simp
 have x0:CellsAt W w.heap.size [.int .i64 wd,.int .i64 now,.int .i64 given,.int .i64 births,.slice ta ks.length tc,.slice pa ps.length pc,.slice la ln lc]:=by
  rw[hW];exact CellsAt.below (CellsAt.new w _ 38) (((Below.refl _ _).alloc (Nat.le_refl _) _).alloc (by simp) _)
 have xe:CellsAt W (w.heap.size+1) [.int .i64 kind,.string s,.string n,.int .i64 num,.string text,.slice ra rn rc]:=by
  have h1:=CellsAt.new (w.alloc (.cells #[.int .i64 wd,.int .i64 now,.int .i64 given,.int .i64 births,.slice ta ks.length tc,.slice pa ps.length pc,.slice la ln lc] 38)) [.int .i64 kind,.string s,.string n,.int .i64 num,.string text,.slice ra rn rc] 45;rw[World.size_alloc] at h1;rw[hW];exact CellsAt.below h1 ((Below.refl _ _).alloc (Nat.le_refl _) _)
 have x1:CellsAt W (w.heap.size+2) z12:=by
  have h1:=CellsAt.new ((w.alloc (.cells #[.int .i64 wd,.int .i64 now,.int .i64 given,.int .i64 births,.slice ta ks.length tc,.slice pa ps.length pc,.slice la ln lc] 38)).alloc (.cells #[.int .i64 kind,.string s,.string n,.int .i64 num,.string text,.slice ra rn rc] 45)) z12 40;rw[World.size_alloc,World.size_alloc] at h1;rw[hW];exact h1
 have HFF:Hid _:=find_any wd now given births ta tc (.slice pa ps.length pc) (.slice la ln lc) ks s W w.heap.size (KRow.below hks bW) bW.size (by omega);have hfi:¬findI ks s<0:=by
  rcases findI_cases ks s with⟨_,hn⟩|⟨i,k,e,_⟩
  ·exact absurd hth hn
  ·omega
 have HX:Hid (∀X,Below (w.heap.size+3) W X->CellsAt X w.heap.size [.int .i64 wd,.int .i64 now,.int .i64 given,.int .i64 births,.slice ta ks.length tc,.slice pa ps.length pc,.slice la ln lc]/\CellsAt X (w.heap.size+1) [.int .i64 kind,.string s,.string n,.int .i64 num,.string text,.slice ra rn rc]/\CellsAt X (w.heap.size+2) z12):=fun X hX=>⟨CellsAt.same x0 (hX.block _ (by omega)),CellsAt.same xe (hX.block _ (by omega)),CellsAt.same x1 (hX.block _ (by omega))⟩
 have HW:Hid _:=hW;have hzW2:w.heap.size+3<=W.heap.size:=by omega
 have HR:Hid (PRow w w.heap.size pa ps):=hrow;have HBW:Hid (Below w.heap.size w W):=bW;have HSo:Hid (ps.Pairwise (fun a b=>less a.name b.name=true)):=hsort;obtain⟨v0,v1,v2,v3,v4,v5,v6,v7⟩:=sbox_of x0;obtain⟨u1,_⟩:=xe 1 _ rfl;clear hW hzW x0 x1 xe hrow bW hks hth hsort;go_enter Tryz.func86,Tryz.ntmps86;go_upto_region 1 with fail;rw[←HW.out];clear HW;go_wp2_with fail;refine Calls.mono HFF.out ?_
 rintro e W1 ⟨rfl,hb1⟩;have hzW1:w.heap.size+3<=W1.heap.size:=Nat.le_trans hzW2 hb1.size;have HB1:Hid (Below (w.heap.size+3) W W1):=hb1.mono hzW2;have bA:Below W1.heap.size W1 (W1.alloc (.cells #[] 130)):=(Below.refl _ _).alloc (Nat.le_refl _) _
 have HOA:Hid ((W1.alloc (.cells #[] 130)).ownsRow (w.heap.size+3) 130 2 (.slice (some ⟨W1.heap.size,0,none⟩) 0 0) 0 []):=World.ownsRow_lit (base:=w.heap.size+3) (e:=130) (size:=2) W1 #[] 0 (by omega) (by unfold maxLen;omega) rfl;have HBA:Hid (Below (w.heap.size+3) W (W1.alloc (.cells #[] 130))):=HB1.out.trans (bA.mono hzW1);generalize findI ks s=fi at *
 clear HFF bA hb1 u1 v0 v1 v2 v3 v4 v5 v6 v7;go_wp2
 go_loopw [5,6,7] (fun v dn i wr=>∃(k g c:Nat),k<=ps.length/\i=.int .i64 k/\dn=.bool (pinD (ps.take k) n)/\v=.slice (some ⟨g,0,none⟩) (pinQ (ps.take k) n s).length c/\Hid (wr.ownsRow (w.heap.size+3) 130 2 (.slice (some ⟨g,0,none⟩) (pinQ (ps.take k) n s).length c) (pinQ (ps.take k) n s).length (rowC pC (pinQ (ps.take k) n s))/\Below (w.heap.size+3) W wr)) (fun _ _ i _=>ps.length -(intOf i).toNat)
 case atStart=>exact⟨0,W1.heap.size,0,Nat.zero_le _,rfl,rfl,by simp[pinQ,pinD],⟨by simpa [pinQ,pinD,rowC] using HOA.out,HBA.out⟩⟩
 case round=>
  clear HOA HBA;obtain⟨k,g,c,hk,rfl,rfl,rfl,HI⟩:=hrel;have hbr:Below w.heap.size w wr:=HBW.out.trans (HI.out.2.mono (by omega));have hzr:w.heap.size+3<=wr.heap.size:=Nat.le_trans hzW2 HI.out.2.size;obtain⟨v0,v1,v2,v3,v4,v5,v6,v7⟩:=sbox_of (HX.out _ HI.out.2).1;obtain⟨u1,_⟩:=(HX.out _ HI.out.2).2.1 1 _ rfl;obtain⟨u2,_⟩:=(HX.out _ HI.out.2).2.1 2 _ rfl;by_cases hlt:k<ps.length
  ·obtain⟨b',off,ha,hb,hc'⟩:=(PRow.below HR.out hbr).at hlt
   subst ha;have HG:Hid (ps[k]?=some ps[k]):=List.getElem?_eq_getElem hlt;obtain⟨c0,c1⟩:=hc' k _ HG.out;have HCC:∀X,Below (w.heap.size+3) W X->X.cell? ⟨b',off+k *2,none⟩=some (.string ps[k].name)/\X.cell? ⟨b',off+k *2+1,none⟩=some (.string ps[k].sum):=fun X hX=>by
    obtain⟨b2,off2,e2,_,hc2⟩:=(PRow.below HR.out (HBW.out.trans (hX.mono (by omega)))).at hlt;cases e2;exact hc2 k _ HG.out
   have hgl:(pinQ (ps.take k) n s).length<=1001:=by
    have:=pinQ_len (ps.take k) n s;rw[List.length_take] at this;omega
   have hbl':b'<wr.heap.size:=by have:=hbr.size;omega
   clear hc';have HEarly:Hid _:=pinQ_early n s HG.out;have HAt:Hid _:=pinQ_at n s HG.out;have HLate:Hid _:=pinQ_late n s HSo.out HG.out;have HD:Hid _:=pinD_snoc n HG.out;generalize ps[k]=x at *
   generalize hGk:pinQ (ps.take k) n s=gk at *
   generalize hDk:pinD (ps.take k) n=dk at *
   have HGk:Hid _:=hGk;clear hGk hDk;have HC:Hid (∀X,Below (w.heap.size+3) W X->X.cell? ⟨b',off+k *2,none⟩=some (.string x.name)/\X.cell? ⟨b',off+k *2+1,none⟩=some (.string x.sum)):=HCC;have hwr:=HI.out.2;have owr:=HI.out.1;have zwr:=hzr;have lwr:=hbl';cases dk with
   |true=>
    obtain⟨hxn,hE⟩:=HLate.out rfl;have HE:Hid _:=hE;have HD':Hid (pinD (ps.take (k+1)) n=true):=by show _=_;rw[HD.out];rfl
    have hq2:(x.name.toList==n.toList)=false:=beq_ne hxn;have hq:(x.name.toList !=n.toList)=true:=by simp[bne,hq2]
    clear hE HEarly HAt HLate hxn HI;go_wp2;go_quiet (fail);have bq:Below wr.heap.size wr (wr.drewN nq):=belowN (Below.refl _ _) _;generalize wr.drewN nq=wa at *
    have hwa:Below (w.heap.size+3) W wa:=hwr.trans (bq.mono (Nat.le_trans hzW2 hwr.size));have owa:=own_below owr bq;have zwa:w.heap.size+3<=wa.heap.size:=Nat.le_trans hzW2 hwa.size;have lwa:b'<wa.heap.size:=by omega
    clear c0 c1 u1 u2 v0 v1 v2 v3 v4 v5 v6;obtain⟨v0,v1,v2,v3,v4,v5,v6,v7⟩:=sbox_of (HX.out _ hwa).1;obtain⟨u1,_⟩:=(HX.out _ hwa).2.1 1 _ rfl;obtain⟨u2,_⟩:=(HX.out _ hwa).2.1 2 _ rfl;obtain⟨c0,c1⟩:=HC.out wa hwa;go_wp2;go_quiet (fail);have bq:Below wa.heap.size wa (wa.drewN nq):=belowN (Below.refl _ _) _;generalize wa.drewN nq=wb at *
    have hwb:Below (w.heap.size+3) W wb:=hwa.trans (bq.mono (Nat.le_trans hzW2 hwa.size));have owb:=own_below owa bq;have zwb:w.heap.size+3<=wb.heap.size:=Nat.le_trans hzW2 hwb.size;have lwb:b'<wb.heap.size:=by omega
    clear c0 c1 u1 u2 v0 v1 v2 v3 v4 v5 v6;obtain⟨v0,v1,v2,v3,v4,v5,v6,v7⟩:=sbox_of (HX.out _ hwb).1;obtain⟨u1,_⟩:=(HX.out _ hwb).2.1 1 _ rfl;obtain⟨u2,_⟩:=(HX.out _ hwb).2.1 2 _ rfl;obtain⟨c0,c1⟩:=HC.out wb hwb;obtain⟨g8,cap8,wc,hrwc,howc,hgwc,_⟩:=ppush wb (w.heap.size+3) _ gk owb x (by first|omega|(simp;omega)) zwb 35
    have hwc:Below (w.heap.size+3) W wc:=hwb.trans ((Below.refl _ _).grown hgwc zwb (fun q e=>(own_lt owb e).1));have zwc:w.heap.size+3<=wc.heap.size:=Nat.le_trans hzW2 hwc.size;have lwc:b'<wc.heap.size:=by omega
    have owc:=howc;clear howc hgwc;go_wp2_with (at_builtin;refine wpList_append_run rfl _ _ 35 35 rfl rfl rfl hrwc ?_);clear hrwc;clear c0 c1 u1 u2 v0 v1 v2 v3 v4 v5 v6;obtain⟨v0,v1,v2,v3,v4,v5,v6,v7⟩:=sbox_of (HX.out _ hwc).1;obtain⟨u1,_⟩:=(HX.out _ hwc).2.1 1 _ rfl;obtain⟨u2,_⟩:=(HX.out _ hwc).2.1 2 _ rfl;obtain⟨c0,c1⟩:=HC.out wc hwc;have HO:Hid _:=And.intro owc hwc;clear owc hwc;go_wp2
    exact⟨⟨k+1,g8,cap8,by omega,by go_num,by rw[HD'.out],by rw[HE.out];simp,⟨by rw[HE.out];simpa using HO.out.1,HO.out.2⟩⟩,by simp[intOf];omega⟩
   |false=>
    cases hless:Op.bytesLess x.name.toList n.toList with
    |true=>
     have HE:Hid _:=HEarly.out rfl hless;have HD':Hid (pinD (ps.take (k+1)) n=false):=by show _=_;rw[HD.out];unfold less;rw[hless];rfl
     have hxn:x.name≠n:=fun e=>by have:=less_irrefl n;unfold less at this;rw[e,this] at hless;cases hless
     have hq2:(x.name.toList==n.toList)=false:=beq_ne hxn;have hq:(x.name.toList !=n.toList)=true:=by simp[bne,hq2]
     clear HEarly HAt HLate hxn HI;go_wp2;go_quiet (fail);have bq:Below wr.heap.size wr (wr.drewN nq):=belowN (Below.refl _ _) _;generalize wr.drewN nq=wa at *
     have hwa:Below (w.heap.size+3) W wa:=hwr.trans (bq.mono (Nat.le_trans hzW2 hwr.size));have owa:=own_below owr bq;have zwa:w.heap.size+3<=wa.heap.size:=Nat.le_trans hzW2 hwa.size;have lwa:b'<wa.heap.size:=by omega
     clear c0 c1 u1 u2 v0 v1 v2 v3 v4 v5 v6;obtain⟨v0,v1,v2,v3,v4,v5,v6,v7⟩:=sbox_of (HX.out _ hwa).1;obtain⟨u1,_⟩:=(HX.out _ hwa).2.1 1 _ rfl;obtain⟨u2,_⟩:=(HX.out _ hwa).2.1 2 _ rfl;obtain⟨c0,c1⟩:=HC.out wa hwa;go_wp2;go_quiet (fail);have bq:Below wa.heap.size wa (wa.drewN nq):=belowN (Below.refl _ _) _;generalize wa.drewN nq=wb at *
     have hwb:Below (w.heap.size+3) W wb:=hwa.trans (bq.mono (Nat.le_trans hzW2 hwa.size));have owb:=own_below owa bq;have zwb:w.heap.size+3<=wb.heap.size:=Nat.le_trans hzW2 hwb.size;have lwb:b'<wb.heap.size:=by omega
     clear c0 c1 u1 u2 v0 v1 v2 v3 v4 v5 v6;obtain⟨v0,v1,v2,v3,v4,v5,v6,v7⟩:=sbox_of (HX.out _ hwb).1;obtain⟨u1,_⟩:=(HX.out _ hwb).2.1 1 _ rfl;obtain⟨u2,_⟩:=(HX.out _ hwb).2.1 2 _ rfl;obtain⟨c0,c1⟩:=HC.out wb hwb;obtain⟨g8,cap8,wc,hrwc,howc,hgwc,_⟩:=ppush wb (w.heap.size+3) _ gk owb x (by first|omega|(simp;omega)) zwb 35
     have hwc:Below (w.heap.size+3) W wc:=hwb.trans ((Below.refl _ _).grown hgwc zwb (fun q e=>(own_lt owb e).1));have zwc:w.heap.size+3<=wc.heap.size:=Nat.le_trans hzW2 hwc.size;have lwc:b'<wc.heap.size:=by omega
     have owc:=howc;clear howc hgwc;go_wp2_with (at_builtin;refine wpList_append_run rfl _ _ 35 35 rfl rfl rfl hrwc ?_);clear hrwc;clear c0 c1 u1 u2 v0 v1 v2 v3 v4 v5 v6;obtain⟨v0,v1,v2,v3,v4,v5,v6,v7⟩:=sbox_of (HX.out _ hwc).1;obtain⟨u1,_⟩:=(HX.out _ hwc).2.1 1 _ rfl;obtain⟨u2,_⟩:=(HX.out _ hwc).2.1 2 _ rfl;obtain⟨c0,c1⟩:=HC.out wc hwc;have HO:Hid _:=And.intro owc hwc;clear owc hwc;go_wp2
     exact⟨⟨k+1,g8,cap8,by omega,by go_num,by rw[HD'.out],by rw[HE.out];simp,⟨by rw[HE.out];simpa using HO.out.1,HO.out.2⟩⟩,by simp[intOf];omega⟩
    |false=>
     have HEa:Hid _:=HAt.out rfl hless;have HD':Hid (pinD (ps.take (k+1)) n=true):=by show _=_;rw[HD.out];unfold less;rw[hless];rfl
     by_cases hxn:x.name=n
     ·have hq2:(x.name.toList==n.toList)=true:=by rw[hxn];simp
      have hq:(x.name.toList !=n.toList)=false:=by rw[hxn];simp
      have HE:Hid (pinQ (ps.take (k+1)) n s=gk++[⟨n,s⟩]):=by show _=_;rw[HEa.out,if_pos hxn,List.append_nil]
      clear HEarly HAt HLate hxn HI HEa;go_wp2;go_quiet (fail);have bq:Below wr.heap.size wr (wr.drewN nq):=belowN (Below.refl _ _) _;generalize wr.drewN nq=wa at *
      have hwa:Below (w.heap.size+3) W wa:=hwr.trans (bq.mono (Nat.le_trans hzW2 hwr.size));have owa:=own_below owr bq;have zwa:w.heap.size+3<=wa.heap.size:=Nat.le_trans hzW2 hwa.size;have lwa:b'<wa.heap.size:=by omega
      clear c0 c1 u1 u2 v0 v1 v2 v3 v4 v5 v6;obtain⟨v0,v1,v2,v3,v4,v5,v6,v7⟩:=sbox_of (HX.out _ hwa).1;obtain⟨u1,_⟩:=(HX.out _ hwa).2.1 1 _ rfl;obtain⟨u2,_⟩:=(HX.out _ hwa).2.1 2 _ rfl;obtain⟨c0,c1⟩:=HC.out wa hwa;obtain⟨g8,cap8,wc,hrwc,howc,hgwc,_⟩:=ppush wa (w.heap.size+3) _ gk owa ⟨n,s⟩ (by first|omega|(simp;omega)) zwa 35
      have hwc:Below (w.heap.size+3) W wc:=hwa.trans ((Below.refl _ _).grown hgwc zwa (fun q e=>(own_lt owa e).1));have zwc:w.heap.size+3<=wc.heap.size:=Nat.le_trans hzW2 hwc.size;have lwc:b'<wc.heap.size:=by omega
      have owc:=howc;clear howc hgwc;go_wp2_with (at_builtin;refine wpList_append_run rfl _ _ 35 35 rfl rfl rfl hrwc ?_);clear hrwc;clear c0 c1 u1 u2 v0 v1 v2 v3 v4 v5 v6;obtain⟨v0,v1,v2,v3,v4,v5,v6,v7⟩:=sbox_of (HX.out _ hwc).1;obtain⟨u1,_⟩:=(HX.out _ hwc).2.1 1 _ rfl;obtain⟨u2,_⟩:=(HX.out _ hwc).2.1 2 _ rfl;obtain⟨c0,c1⟩:=HC.out wc hwc;go_wp2;go_quiet (fail)
      have bq:Below wc.heap.size wc (wc.drewN nq):=belowN (Below.refl _ _) _;generalize wc.drewN nq=wd at *
      have hwd:Below (w.heap.size+3) W wd:=hwc.trans (bq.mono (Nat.le_trans hzW2 hwc.size));have owd:=own_below owc bq;have zwd:w.heap.size+3<=wd.heap.size:=Nat.le_trans hzW2 hwd.size;have lwd:b'<wd.heap.size:=by omega
      clear c0 c1 u1 u2 v0 v1 v2 v3 v4 v5 v6;obtain⟨v0,v1,v2,v3,v4,v5,v6,v7⟩:=sbox_of (HX.out _ hwd).1;obtain⟨u1,_⟩:=(HX.out _ hwd).2.1 1 _ rfl;obtain⟨u2,_⟩:=(HX.out _ hwd).2.1 2 _ rfl;obtain⟨c0,c1⟩:=HC.out wd hwd;have HO:Hid _:=And.intro owd hwd;clear owd hwd;go_wp2
      exact⟨⟨k+1,g8,cap8,by omega,by go_num,by rw[HD'.out],by rw[HE.out];simp,⟨by rw[HE.out];simpa using HO.out.1,HO.out.2⟩⟩,by simp[intOf];omega⟩
     ·have hq2:(x.name.toList==n.toList)=false:=beq_ne hxn
      have hq:(x.name.toList !=n.toList)=true:=by simp[bne,hq2]
      have HE:Hid (pinQ (ps.take (k+1)) n s=(gk++[⟨n,s⟩])++[x]):=by show _=_;rw[HEa.out,if_neg hxn]
      clear HEarly HAt HLate hxn HI HEa;go_wp2;go_quiet (fail);have bq:Below wr.heap.size wr (wr.drewN nq):=belowN (Below.refl _ _) _;generalize wr.drewN nq=wa at *
      have hwa:Below (w.heap.size+3) W wa:=hwr.trans (bq.mono (Nat.le_trans hzW2 hwr.size));have owa:=own_below owr bq;have zwa:w.heap.size+3<=wa.heap.size:=Nat.le_trans hzW2 hwa.size;have lwa:b'<wa.heap.size:=by omega
      clear c0 c1 u1 u2 v0 v1 v2 v3 v4 v5 v6;obtain⟨v0,v1,v2,v3,v4,v5,v6,v7⟩:=sbox_of (HX.out _ hwa).1;obtain⟨u1,_⟩:=(HX.out _ hwa).2.1 1 _ rfl;obtain⟨u2,_⟩:=(HX.out _ hwa).2.1 2 _ rfl;obtain⟨c0,c1⟩:=HC.out wa hwa;obtain⟨g8,cap8,wc,hrwc,howc,hgwc,_⟩:=ppush wa (w.heap.size+3) _ gk owa ⟨n,s⟩ (by first|omega|(simp;omega)) zwa 35
      have hwc:Below (w.heap.size+3) W wc:=hwa.trans ((Below.refl _ _).grown hgwc zwa (fun q e=>(own_lt owa e).1));have zwc:w.heap.size+3<=wc.heap.size:=Nat.le_trans hzW2 hwc.size;have lwc:b'<wc.heap.size:=by omega
      have owc:=howc;clear howc hgwc;go_wp2_with (at_builtin;refine wpList_append_run rfl _ _ 35 35 rfl rfl rfl hrwc ?_);clear hrwc;clear c0 c1 u1 u2 v0 v1 v2 v3 v4 v5 v6;obtain⟨v0,v1,v2,v3,v4,v5,v6,v7⟩:=sbox_of (HX.out _ hwc).1;obtain⟨u1,_⟩:=(HX.out _ hwc).2.1 1 _ rfl;obtain⟨u2,_⟩:=(HX.out _ hwc).2.1 2 _ rfl;obtain⟨c0,c1⟩:=HC.out wc hwc;go_wp2;go_quiet (fail)
      have bq:Below wc.heap.size wc (wc.drewN nq):=belowN (Below.refl _ _) _;generalize wc.drewN nq=wd at *
      have hwd:Below (w.heap.size+3) W wd:=hwc.trans (bq.mono (Nat.le_trans hzW2 hwc.size));have owd:=own_below owc bq;have zwd:w.heap.size+3<=wd.heap.size:=Nat.le_trans hzW2 hwd.size;have lwd:b'<wd.heap.size:=by omega
      clear c0 c1 u1 u2 v0 v1 v2 v3 v4 v5 v6;obtain⟨v0,v1,v2,v3,v4,v5,v6,v7⟩:=sbox_of (HX.out _ hwd).1;obtain⟨u1,_⟩:=(HX.out _ hwd).2.1 1 _ rfl;obtain⟨u2,_⟩:=(HX.out _ hwd).2.1 2 _ rfl;obtain⟨c0,c1⟩:=HC.out wd hwd;obtain⟨g9,cap9,we,hrwe,howe,hgwe,_⟩:=ppush wd (w.heap.size+3) _ (gk++[⟨n,s⟩]) owd x (by first|omega|(simp;omega)) zwd 35
      have hwe:Below (w.heap.size+3) W we:=hwd.trans ((Below.refl _ _).grown hgwe zwd (fun q e=>(own_lt owd e).1));have zwe:w.heap.size+3<=we.heap.size:=Nat.le_trans hzW2 hwe.size;have lwe:b'<we.heap.size:=by omega
      have owe:=howe;clear howe hgwe;go_wp2_with (at_builtin;refine wpList_append_run rfl _ _ 35 35 rfl rfl rfl hrwe ?_);clear hrwe;clear c0 c1 u1 u2 v0 v1 v2 v3 v4 v5 v6;obtain⟨v0,v1,v2,v3,v4,v5,v6,v7⟩:=sbox_of (HX.out _ hwe).1;obtain⟨u1,_⟩:=(HX.out _ hwe).2.1 1 _ rfl;obtain⟨u2,_⟩:=(HX.out _ hwe).2.1 2 _ rfl;obtain⟨c0,c1⟩:=HC.out we hwe;have HO:Hid _:=And.intro owe hwe;clear owe hwe;go_wp2
      exact⟨⟨k+1,g9,cap9,by omega,by go_num,by rw[HD'.out],by rw[HE.out];simp,⟨by rw[HE.out];simpa using HO.out.1,HO.out.2⟩⟩,by simp[intOf];omega⟩
  ·obtain rfl:k=ps.length:=by omega
   have hO:=HI.out.1;rw[List.take_of_length_le (Nat.le_refl _)] at hO ⊢;have HBr:Hid (Below w.heap.size w wr):=hbr;cases hDn:pinD ps n with
   |true=>
    have hPe:=pinQ_yes n s hDn;rw[hPe] at hO ⊢;have HO:Hid (wr.ownsRow (w.heap.size+3) 130 2 (.slice (some ⟨g,0,none⟩) (pinP ps n s).length c) (pinP ps n s).length (rowC pC (pinP ps n s))):=hO;have hPl:=pinQ_len ps n s;rw[hPe] at hPl;have f5:=((HX.out _ HI.out.2).1 5 _ rfl).2
    obtain⟨⟨y0,q0⟩,⟨y1,q1⟩,⟨y2,q2⟩,⟨y3,q3⟩,⟨y4,q4⟩,⟨y5,q5⟩,⟨y6,q6⟩,⟨y7,q7⟩,⟨y8,q8⟩,⟨y9,q9⟩,⟨y10,q10⟩,y11,q11⟩:=z12at (HX.out _ HI.out.2).2.2;clear hDn hPe hbr HI u1 u2;by_cases hbig:100<(pinP ps n s).length
    ·have hq:(100:Int)<((pinP ps n s).length:Int):=by omega
     have HEx:Hid (100<(pinP ps n s).length):=hbig;clear hbig hO;go_wp2;refine bodyPost_ret (v:=.agg #[.int .i64 4,.int .i64 0,.int .i64 0,.int .i64 0,.int .i64 0,.slice none 0 0,.slice none 0 0,.slice none 0 0,.string ⟨#[]⟩,.int .i64 0,.string ⟨#[]⟩,.string ⟨#[]⟩]) (by simp[results,Tryz.results86,go_sem,y0,y1,y2,y3,y4,y5,y6,y7,y8,y9,y10,y11]) rfl ?_
     exact⟨HBr.out.trans (Tn.below (tn12 wr (w.heap.size+2) _ _ _ _ _ _ _ _ _ _ _ _) HBr.out.size (by intro v hv;simp at hv;omega)),.inl ⟨HEx.out,rfl⟩⟩
    ·have hq:¬(100:Int)<((pinP ps n s).length:Int):=by omega
     have HEx:Hid ((pinP ps n s).length<=100):=by show _<=_;omega
     clear hbig hO;go_wp2;refine bodyPost_ret (v:=.agg #[.int .i64 0,.int .i64 wd,.int .i64 now,.int .i64 given,.int .i64 births,.slice ta ks.length tc,.slice (some ⟨g,0,none⟩) (pinP ps n s).length c,.slice la ln lc,.string ⟨#[]⟩,.int .i64 0,.string ⟨#[]⟩,.string ⟨#[]⟩]) (by simp[results,Tryz.results86,go_sem,y0,y1,y2,y3,y4,y5,y6,y7,y8,y9,y10,y11]) rfl ?_
     have T':=(Tn.set (V:=[w.heap.size,w.heap.size+2]) wr w.heap.size 5 (.slice (some ⟨g,0,none⟩) (pinP ps n s).length c) (by simp)).trans (Tn.mono (tn12 (wr.setCell ⟨w.heap.size,5,none⟩ (.slice (some ⟨g,0,none⟩) (pinP ps n s).length c)) (w.heap.size+2) (.int .i64 0) (.int .i64 wd) (.int .i64 now) (.int .i64 given) (.int .i64 births) (.slice ta ks.length tc) (.slice (some ⟨g,0,none⟩) (pinP ps n s).length c) (.slice la ln lc) (.string ⟨#[]⟩) (.int .i64 0) (.string ⟨#[]⟩) (.string ⟨#[]⟩)) (by simp))
     exact⟨HBr.out.trans (T'.below HBr.out.size (by intro v hv;simp at hv;omega)),.inr ⟨HEx.out,g,c,rfl,(own_same HO.out (fun q hq=>T'.block q (own_lt HO.out hq).2 (by have:=(own_lt HO.out hq).1;simp;omega))).mono (by omega)⟩⟩
   |false=>
    have hQl:=pinQ_len ps n s;have hPe:=pinQ_no n s hDn;obtain⟨g8,cap8,w8,hr8,ho8,hg8,hk8⟩:=ppush wr (w.heap.size+3) _ (pinQ ps n s) hO ⟨n,s⟩ (by omega) hzr 35;have b8:Below (w.heap.size+3) wr w8:=(Below.refl _ _).grown hg8 hzr (fun q e=>(own_lt hO e).1);have hB8:Below (w.heap.size+3) W w8:=HI.out.2.trans b8;have HBr:Hid (Below w.heap.size w w8):=HBr.out.trans (b8.mono (by omega))
    have HPl:Hid ((pinP ps n s).length=(pinQ ps n s).length+1):=by show _=_;rw[←hPe];simp
    rw[hPe,HPl.out] at ho8;have HO:Hid (w8.ownsRow (w.heap.size+3) 130 2 (.slice (some ⟨g8,0,none⟩) ((pinQ ps n s).length+1) cap8) ((pinQ ps n s).length+1) (rowC pC (pinP ps n s))):=ho8;have f5:=((HX.out _ hB8).1 5 _ rfl).2;obtain⟨⟨y0,q0⟩,⟨y1,q1⟩,⟨y2,q2⟩,⟨y3,q3⟩,⟨y4,q4⟩,⟨y5,q5⟩,⟨y6,q6⟩,⟨y7,q7⟩,⟨y8,q8⟩,⟨y9,q9⟩,⟨y10,q10⟩,y11,q11⟩:=z12at (HX.out _ hB8).2.2
    obtain⟨z0,z1,z2,z3,z4,z5,z6,z7⟩:=sbox_of (HX.out _ hB8).1;clear hDn hPe hbr HI b8 hg8 hk8 ho8 hB8 hO;by_cases hbig:100<((pinQ ps n s).length+1)
    ·have hq:(100:Int)<((pinQ ps n s).length:Int)+1:=by omega
     have HEx:Hid (100<(pinP ps n s).length):=by show _<_;rw[HPl.out];exact hbig
     clear hbig;go_wp2_with (at_builtin;refine wpList_append_run rfl _ _ 35 35 rfl rfl rfl hr8 ?_);refine bodyPost_ret (v:=.agg #[.int .i64 4,.int .i64 0,.int .i64 0,.int .i64 0,.int .i64 0,.slice none 0 0,.slice none 0 0,.slice none 0 0,.string ⟨#[]⟩,.int .i64 0,.string ⟨#[]⟩,.string ⟨#[]⟩]) (by simp[results,Tryz.results86,go_sem,y0,y1,y2,y3,y4,y5,y6,y7,y8,y9,y10,y11]) rfl ?_
     exact⟨HBr.out.trans (Tn.below (tn12 w8 (w.heap.size+2) _ _ _ _ _ _ _ _ _ _ _ _) HBr.out.size (by intro v hv;simp at hv;omega)),.inl ⟨HEx.out,rfl⟩⟩
    ·have hq:¬(100:Int)<((pinQ ps n s).length:Int)+1:=by omega
     have hq':¬(100:Int)<(((pinQ ps n s).length+1:Nat):Int):=by omega
     have HEx:Hid ((pinP ps n s).length<=100):=by show _<=_;rw[HPl.out];omega
     clear hbig;go_wp2_with (at_builtin;refine wpList_append_run rfl _ _ 35 35 rfl rfl rfl hr8 ?_)
     refine bodyPost_ret (v:=.agg #[.int .i64 0,.int .i64 wd,.int .i64 now,.int .i64 given,.int .i64 births,.slice ta ks.length tc,.slice (some ⟨g8,0,none⟩) ((pinQ ps n s).length+1) cap8,.slice la ln lc,.string ⟨#[]⟩,.int .i64 0,.string ⟨#[]⟩,.string ⟨#[]⟩]) (by simp[results,Tryz.results86,go_sem,y0,y1,y2,y3,y4,y5,y6,y7,y8,y9,y10,y11]) rfl ?_
     have T':=(Tn.set (V:=[w.heap.size,w.heap.size+2]) w8 w.heap.size 5 (.slice (some ⟨g8,0,none⟩) ((pinQ ps n s).length+1) cap8) (by simp)).trans (Tn.mono (tn12 (w8.setCell ⟨w.heap.size,5,none⟩ (.slice (some ⟨g8,0,none⟩) ((pinQ ps n s).length+1) cap8)) (w.heap.size+2) (.int .i64 0) (.int .i64 wd) (.int .i64 now) (.int .i64 given) (.int .i64 births) (.slice ta ks.length tc) (.slice (some ⟨g8,0,none⟩) ((pinQ ps n s).length+1) cap8) (.slice la ln lc) (.string ⟨#[]⟩) (.int .i64 0) (.string ⟨#[]⟩) (.string ⟨#[]⟩)) (by simp))
     have hOf:=(own_same HO.out (fun q hq=>T'.block q (own_lt HO.out hq).2 (by have:=(own_lt HO.out hq).1;simp;omega))).mono (show w.heap.size<=w.heap.size+3 by omega);refine⟨HBr.out.trans (T'.below HBr.out.size (by intro v hv;simp at hv;omega)),.inr ⟨HEx.out,g8,cap8,by rw[HPl.out],?_⟩⟩;rw[HPl.out];exact hOf
end Go.Proofs.YthkmpihfhkmaoaaGreatDoor
namespace Go.Proofs.YthkmpihfhkmaoaaGreatDoor
open Go.ChangeShapes Go.WideShapes Go.ChangeAt Go.RowKit
def LeaseTo (w w':World) (e:Ending) (wd now given births:Int) (T P L:Value) (ls:List Ld) (s:ByteArray) (hold:Int) (base:Nat):Prop:=
 Tn L.ownBlock.toList w w'/\(((200<=ls.length∨1000000000<=given)/\e=.returned (.agg #[.int .i64 4,.int .i64 0,.int .i64 0,.int .i64 0,.int .i64 0,.slice none 0 0,.slice none 0 0,.slice none 0 0,.string ⟨#[]⟩,.int .i64 0,.string ⟨#[]⟩,.string ⟨#[]⟩]))∨
  ((ls.length<200/\given<1000000000)/\∃g c,e=.returned (.agg #[.int .i64 0,.int .i64 wd,.int .i64 now,.int .i64 (given+1),.int .i64 births,T,P,.slice (some ⟨g,0,none⟩) (ls.length+1) c,.string ⟨#[]⟩,.int .i64 (given+1),.string ⟨#[]⟩,.string ⟨#[]⟩])/\w'.ownsRow base 131 3 (.slice (some ⟨g,0,none⟩) (ls.length+1) c) (ls++[(⟨given+1,s,now+hold⟩:Ld)]).length (rowC lC (ls++[(⟨given+1,s,now+hold⟩:Ld)]))/\(L.ownBlock=some g∨w.heap.size<=g)))
set_option maxRecDepth 20000 in
set_option maxHeartbeats 4000000 in
theorem l4Lease_any (wd now given births:Int) (ta pa la:Option Addr) (tn tc pn pc lc base:Nat) (ls:List Ld) (s:ByteArray) (hold:Int) (w:World) (ho:w.ownsRow base 131 3 (.slice la ls.length lc) ls.length (rowC lC ls)) (hbase:base<=w.heap.size) (hl:ls.length<=1000) (hg0:0<=given) (hg1:given<=1000000000) (hn0:0<=now) (hn1:now<=1000000000) (ht0:0<=hold) (ht1:hold<=1000000000):
 Calls Tryz.prog 88 #[.agg #[.int .i64 wd,.int .i64 now,.int .i64 given,.int .i64 births,.slice ta tn tc,.slice pa pn pc,.slice la ls.length lc],.string s,.int .i64 hold] w fun e w'=>LeaseTo w w' e wd now given births (.slice ta tn tc) (.slice pa pn pc) (.slice la ls.length lc) ls s hold base:=by
 obtain⟨W,hW⟩:∃W,W=(w.alloc (.cells #[.int .i64 wd,.int .i64 now,.int .i64 given,.int .i64 births,.slice ta tn tc,.slice pa pn pc,.slice la ls.length lc] 38)).alloc (.cells #[.int .i64 0,.int .i64 0,.int .i64 0,.int .i64 0,.int .i64 0,.slice none 0 0,.slice none 0 0,.slice none 0 0,.string ⟨#[]⟩,.int .i64 0,.string ⟨#[]⟩,.string ⟨#[]⟩] 40):=⟨_,rfl⟩
 have bW:Below w.heap.size w W:=by rw[hW];exact((Below.refl _ _).alloc (Nat.le_refl _) _).alloc (by simp) _
 have hzW:W.heap.size=w.heap.size+2:=by rw[hW];simp
 have x0:CellsAt W w.heap.size [.int .i64 wd,.int .i64 now,.int .i64 given,.int .i64 births,.slice ta tn tc,.slice pa pn pc,.slice la ls.length lc]:=by
  have h1:=CellsAt.new w [.int .i64 wd,.int .i64 now,.int .i64 given,.int .i64 births,.slice ta tn tc,.slice pa pn pc,.slice la ls.length lc] 38;rw[hW];exact CellsAt.below h1 ((Below.refl _ _).alloc (Nat.le_refl _) _)
 have x1:CellsAt W (w.heap.size+1) z12:=by
  have h1:=CellsAt.new (w.alloc (.cells #[.int .i64 wd,.int .i64 now,.int .i64 given,.int .i64 births,.slice ta tn tc,.slice pa pn pc,.slice la ls.length lc] 38)) z12 40;rw[World.size_alloc] at h1;rw[hW];exact h1
 have HW:Hid _:=hW;have HB:Hid (Below w.heap.size w W):=bW;by_cases hfull:200<=ls.length∨1000000000<=given
 ·obtain⟨⟨y0,q0⟩,⟨y1,q1⟩,⟨y2,q2⟩,⟨y3,q3⟩,⟨y4,q4⟩,⟨y5,q5⟩,⟨y6,q6⟩,⟨y7,q7⟩,⟨y8,q8⟩,⟨y9,q9⟩,⟨y10,q10⟩,y11,q11⟩:=z12at x1
  obtain⟨v0,v1,v2,v3,v4,v5,v6,v7⟩:=sbox_of x0;have HF:Hid (200<=ls.length∨1000000000<=given):=hfull;have hb1:(decide ((200:Int)<=(ls.length:Int))=true)∨(decide ((200:Int)<=(ls.length:Int))=false/\decide ((1000000000:Int)<=given)=true):=by
   by_cases h:200<=ls.length
   ·left;simp;omega
   ·right
    refine⟨by simp;omega,?_⟩;rcases hfull with h'|h'
    ·exact absurd h' h
    ·simpa using h'
  clear hW x0 x1 bW hzW hfull ho;rcases hb1 with hb1|⟨hb1,hb2⟩
  all_goals
   go_enter Tryz.func88,Tryz.ntmps88;go_upto_region 1 with fail;rw[←HW.out];clear HW;go_wp2;refine bodyPost_ret (v:=.agg #[.int .i64 4,.int .i64 0,.int .i64 0,.int .i64 0,.int .i64 0,.slice none 0 0,.slice none 0 0,.slice none 0 0,.string ⟨#[]⟩,.int .i64 0,.string ⟨#[]⟩,.string ⟨#[]⟩]) (by simp[results,Tryz.results88,go_sem,y0,y1,y2,y3,y4,y5,y6,y7,y8,y9,y10,y11]) rfl ?_
   exact⟨Tn.of (HB.out.trans (Tn.below (tn12 W (w.heap.size+1) _ _ _ _ _ _ _ _ _ _ _ _) HB.out.size (by intro v hv;simp at hv;omega))),.inl ⟨HF.out,rfl⟩⟩
 ·have hf1:ls.length<200/\given<1000000000:=by omega
  obtain⟨X,hX⟩:∃X,X=W.setCell ⟨w.heap.size,2,none⟩ (.int .i64 (given+1)):=⟨_,rfl⟩;have tX:Tn [w.heap.size] W X:=by rw[hX];exact tn1 _ _ _ _
  have u0:CellsAt X w.heap.size [.int .i64 wd,.int .i64 now,.int .i64 (given+1),.int .i64 births,.slice ta tn tc,.slice pa pn pc,.slice la ls.length lc]:=by rw[hX];exact x0.set 2 _
  have u1:CellsAt X (w.heap.size+1) z12:=CellsAt.same x1 (tX.block _ (by omega) (by simp));have hbX:Below w.heap.size w X:=bW.trans (tX.below bW.size (by simp));have hlo:∀g,(Value.slice la ls.length lc).ownBlock=some g->g<w.heap.size:=fun g hg=>(own_lt ho hg).2;have hoX:X.ownsRow base 131 3 (.slice la ls.length lc) ls.length (rowC lC ls):=own_below ho hbX
  have hzX:w.heap.size+2<=X.heap.size:=by have:=tX.size;omega
  obtain⟨g,c,w8,hr8,ho8,hg8,hk8⟩:=lpush X base _ ls hoX (⟨given+1,s,now+hold⟩:Ld) (by omega) (by omega) 36;dsimp only at hr8;have e0:CellsAt w8 w.heap.size [.int .i64 wd,.int .i64 now,.int .i64 (given+1),.int .i64 births,.slice ta tn tc,.slice pa pn pc,.slice la ls.length lc]:=CellsAt.same u0 (hg8.block _ u0.lt (fun e=>by have:=hlo _ e.symm;omega))
  have e1:CellsAt w8 (w.heap.size+1) z12:=CellsAt.same u1 (hg8.block _ (by omega) (fun e=>by have:=hlo _ e.symm;omega));obtain⟨c2,f2⟩:=x0 2 _ rfl;obtain⟨c6,_⟩:=x0 6 _ rfl;obtain⟨d1,_⟩:=u0 1 _ rfl;obtain⟨d2,_⟩:=u0 2 _ rfl;obtain⟨d6,_⟩:=u0 6 _ rfl;obtain⟨i0,i1,i2,i3,i4,i5,i6,i7⟩:=sbox_of e0
  obtain⟨⟨y0,q0⟩,⟨y1,q1⟩,⟨y2,q2⟩,⟨y3,q3⟩,⟨y4,q4⟩,⟨y5,q5⟩,⟨y6,q6⟩,⟨y7,q7⟩,⟨y8,q8⟩,⟨y9,q9⟩,⟨y10,q10⟩,y11,q11⟩:=z12at e1;have k6:=(e0 6 _ rfl).2;have hwr:IntKind.i64.wrap (now+hold)=now+hold:=wrap_sum hn0 hn1 ht0 ht1;have hq1:¬((200:Int)<=(ls.length:Int)):=by omega
  have hq2:¬((1000000000:Int)<=given):=by omega
  have HXe:Hid _:=hX;have H8:Hid (w8.ownsRow base 131 3 (.slice (some ⟨g,0,none⟩) (ls.length+1) c) (ls++[(⟨given+1,s,now+hold⟩:Ld)]).length (rowC lC (ls++[(⟨given+1,s,now+hold⟩:Ld)]))/\X.grownBy w8 (Value.slice la ls.length lc).ownBlock/\((Value.slice la ls.length lc).ownBlock=some g∨g=X.heap.size+1)):=⟨ho8,hg8,hk8⟩;have HBX:Hid (Below w.heap.size w X):=hbX
  have HLo:Hid (∀g,(Value.slice la ls.length lc).ownBlock=some g->g<w.heap.size):=hlo;have HF1:Hid (ls.length<200/\given<1000000000):=hf1;clear hW hX x0 x1 u0 u1 tX e0 e1 bW hzW hoX ho ho8 hg8 hk8 hbX hlo hfull;go_enter Tryz.func88,Tryz.ntmps88;go_upto_region 1 with fail;rw[←HW.out];clear HW;go_upto_region 4 with fail;rw[←HXe.out];clear HXe c2 f2 c6
  go_wp2_with (at_builtin;refine wpList_append_run rfl _ _ 36 36 rfl rfl rfl hr8 ?_);clear hr8 d1 d2 d6;go_wp2
  refine bodyPost_ret (v:=.agg #[.int .i64 0,.int .i64 wd,.int .i64 now,.int .i64 (given+1),.int .i64 births,.slice ta tn tc,.slice pa pn pc,.slice (some ⟨g,0,none⟩) (ls.length+1) c,.string ⟨#[]⟩,.int .i64 (given+1),.string ⟨#[]⟩,.string ⟨#[]⟩]) (by simp[results,Tryz.results88,go_sem,y0,y1,y2,y3,y4,y5,y6,y7,y8,y9,y10,y11]) rfl ?_
  have T':=(Tn.set (V:=[w.heap.size,w.heap.size+1]) w8 w.heap.size 6 (.slice (some ⟨g,0,none⟩) (ls.length+1) c) (by simp)).trans (Tn.mono (tn12 (w8.setCell ⟨w.heap.size,6,none⟩ (.slice (some ⟨g,0,none⟩) (ls.length+1) c)) (w.heap.size+1) (.int .i64 0) (.int .i64 wd) (.int .i64 now) (.int .i64 (given+1)) (.int .i64 births) (.slice ta tn tc) (.slice pa pn pc) (.slice (some ⟨g,0,none⟩) (ls.length+1) c) (.string ⟨#[]⟩) (.int .i64 (given+1)) (.string ⟨#[]⟩) (.string ⟨#[]⟩)) (by simp))
  have t8:Tn (Value.slice la ls.length lc).ownBlock.toList w w8:=(Tn.of HBX.out).trans (tn_grown H8.out.2.1);have hgb:g<w.heap.size∨w.heap.size+2<=g:=by
   rcases H8.out.2.2 with e|e
   ·exact .inl (HLo.out g e)
   ·exact .inr (by omega)
  refine⟨⟨T'.os.trans t8.os,T'.tape.trans t8.tape,T'.output.trans t8.output,Nat.le_trans t8.size T'.size,fun b hb hv=>(T'.block b (Nat.lt_of_lt_of_le hb t8.size) (by simp;omega)).trans (t8.block b hb hv)⟩,.inr ⟨HF1.out,g,c,rfl,own_same H8.out.1 (fun q hq=>T'.block q (own_lt H8.out.1 hq).2 ?_),?_⟩⟩
  ·obtain rfl:g=q:=by simpa [Value.ownBlock] using hq
   simp;omega
  ·rcases H8.out.2.2 with e|e
   ·exact .inl e
   ·exact .inr (by omega)
end Go.Proofs.YthkmpihfhkmaoaaGreatDoor
namespace Go.Proofs.YthkmpihfhkmaoaaGreatDoor
open Go.ChangeShapes Go.WideShapes Go.ChangeAt Go.RowKit
theorem zpush (w:World) (base:Nat) (v:Value) (zs:List (Kd×Value)) (ho:w.ownsRow base 114 4 v zs.length (rowC kC zs)) (z:Kd×Value) (hz:∃a n c,z.2=.slice a n c) (hn:zs.length<=1000000) (hbase:base<=w.heap.size) (ty:TypeId):
 ∃g cap w',(Builtin.append_ #[34,34] ty #[v,.slice (some ⟨w.heap.size,0,none⟩) 1 1]).run Tryz.prog (w.alloc (.cells #[.string z.1.sum,.int .i64 z.1.born,.string z.1.text,z.2] 114))=.ok (.slice (some ⟨g,0,none⟩) (zs.length+1) cap) w'/\w'.ownsRow base 114 4 (.slice (some ⟨g,0,none⟩) (zs.length+1) cap) (zs++[z]).length (rowC kC (zs++[z]))/\w.grownBy w' v.ownBlock/\(v.ownBlock=some g∨g=w.heap.size+1):=by
 obtain⟨i0,hi,hz0,hz1,hz2⟩:=info_parts Tryz.infoKept;have ho':=own_below ho ((Below.refl _ _).alloc (Nat.le_refl _) (.cells #[.string z.1.sum,.int .i64 z.1.born,.string z.1.text,z.2] 114));have hc:∀j u,(rowC kC [z])[j]?=some u->(w.alloc (.cells #[.string z.1.sum,.int .i64 z.1.born,.string z.1.text,z.2] 114)).cell? ((⟨w.heap.size,0,none⟩:Addr).add j)=some u:=by
  intro j u hu;rw[Go.WideShapes.add_plain,Nat.zero_add];exact(CellsAt.new w [.string z.1.sum,.int .i64 z.1.born,.string z.1.text,z.2] 114 j u (by simpa [rowC,kC] using hu)).1
 obtain⟨v',w',hr,h2,h3,_,h5⟩:=run_append_own_at (P:=Tryz.prog) (w.alloc (.cells #[.string z.1.sum,.int .i64 z.1.born,.string z.1.text,z.2] 114)) base 34 ty 114 i0 _ 4 64 Tryz.underlying34 hi hz0 hz1 hz2 rfl (by decide) v zs.length (rowC kC zs) ho' ⟨w.heap.size,0,none⟩ 1 1 (rowC kC [z]) (by simp[rowC,kC]) hc (by intro u hu;obtain⟨a,n,c,e⟩:=hz;simp[rowC,kC,e] at hu;rcases hu with rfl|rfl|rfl|rfl<;>rfl) (by unfold maxLen;omega) (by omega) (by simp;omega)
 obtain⟨g,cap,rfl,_,_⟩:=own_form h2 (fun e=>by subst e;rcases h2.2 with⟨_,hn⟩|⟨_,_,_,e,_⟩<;>first|omega|cases e);refine⟨g,cap,w',hr,?_,(World.grownBy_alloc w _ _).trans h3,?_⟩
 ·rw[rowC_append,List.length_append]
  exact h2
 ·rcases h5 with h5|h5
  ·exact .inl h5.symm
  ·right
   simpa [Value.ownBlock] using h5
def zD (zs:List (Kd×Value)) (s:ByteArray):Bool:= !(zs.all (fun z=>less z.1.sum s))
def zQ (zs:List (Kd×Value)) (one:Kd×Value):List (Kd×Value):=zs.filter (fun z=>less z.1.sum one.1.sum)++(if zD zs one.1.sum then [one] else [])++zs.filter (fun z=> !(less z.1.sum one.1.sum))
def insZ (zs:List (Kd×Value)) (one:Kd×Value):List (Kd×Value):=zs.filter (fun z=>less z.1.sum one.1.sum)++[one]++zs.filter (fun z=> !(less z.1.sum one.1.sum))
theorem insZ_map (zs:List (Kd×Value)) (one:Kd×Value):(insZ zs one).map (·.1)=insK (zs.map (·.1)) one.1:=by
 unfold insZ insK;rw[List.map_append,List.map_append,List.filter_map,List.filter_map];rfl
theorem insZ_mem {zs:List (Kd×Value)} {one z:Kd×Value} (h:z∈insZ zs one):z∈zs∨z=one:=by
 unfold insZ at h;simp only[List.mem_append,List.mem_filter,List.mem_singleton] at h;rcases h with(h|h)|h
 ·exact .inl h.1
 ·exact .inr h
 ·exact .inl h.1
theorem zD_snoc {zs:List (Kd×Value)} {k:Nat} {x:Kd×Value} (s:ByteArray) (hx:zs[k]?=some x):zD (zs.take (k+1)) s=(zD (zs.take k) s|| !(less x.1.sum s)):=by
 obtain⟨hlt,rfl⟩:=List.getElem?_eq_some_iff.1 hx;unfold zD;rw[List.take_succ_eq_append_getElem hlt,List.all_append];simp
theorem zQ_above {zs:List (Kd×Value)} {s:ByteArray} (h:zD zs s=false):zs.filter (fun z=> !(less z.1.sum s))=[]:=by
 rw[List.filter_eq_nil_iff];intro x hx;have:less x.1.sum s=true:=by
  unfold zD at h;simp only[Bool.not_eq_false'] at h;exact List.all_eq_true.1 h x hx
 simp[this]
theorem zQ_early {zs:List (Kd×Value)} {k:Nat} {x:Kd×Value} (one:Kd×Value) (hx:zs[k]?=some x) (hd:zD (zs.take k) one.1.sum=false) (hl:less x.1.sum one.1.sum=true):zQ (zs.take (k+1)) one=zQ (zs.take k) one++[x]:=by
 have h1:=zD_snoc one.1.sum hx;rw[hd,hl] at h1;unfold zQ;rw[zQ_above hd,zQ_above (by rw[h1];rfl),h1,hd];obtain⟨hlt,rfl⟩:=List.getElem?_eq_some_iff.1 hx;rw[List.take_succ_eq_append_getElem hlt,List.filter_append];simp[hl]
theorem zQ_at {zs:List (Kd×Value)} {k:Nat} {x:Kd×Value} (one:Kd×Value) (hx:zs[k]?=some x) (hd:zD (zs.take k) one.1.sum=false) (hl:less x.1.sum one.1.sum=false):zQ (zs.take (k+1)) one=zQ (zs.take k) one++[one]++[x]:=by
 have h1:=zD_snoc one.1.sum hx;rw[hd,hl] at h1;have ha:=zQ_above hd;unfold zQ;rw[ha,h1,hd];obtain⟨hlt,rfl⟩:=List.getElem?_eq_some_iff.1 hx;rw[List.take_succ_eq_append_getElem hlt,List.filter_append,List.filter_append,ha];simp[hl]
theorem zQ_late {zs:List (Kd×Value)} {k:Nat} {x:Kd×Value} (one:Kd×Value) (hsort:(zs.map (·.1.sum)).Pairwise (fun a b=>less a b=true)) (hx:zs[k]?=some x) (hd:zD (zs.take k) one.1.sum=true):zQ (zs.take (k+1)) one=zQ (zs.take k) one++[x]:=by
 have h1:=zD_snoc one.1.sum hx;rw[hd,Bool.true_or] at h1;obtain⟨hlt,rfl⟩:=List.getElem?_eq_some_iff.1 hx;obtain⟨y,hy,hyn⟩:∃y∈zs.take k,less y.1.sum one.1.sum=false:=by
  unfold zD at hd;simpa using hd
 obtain⟨j,hj⟩:=List.getElem?_of_mem hy;obtain⟨hjl,e⟩:=List.getElem?_eq_some_iff.1 hj;rw[List.length_take] at hjl;rw[List.getElem_take] at e;have hlt2:=List.pairwise_iff_getElem.1 hsort j k (by simp;omega) (by simpa using hlt) (by omega);rw[List.getElem_map,List.getElem_map,e] at hlt2;have hl:less zs[k].1.sum one.1.sum=false:=by
  cases h:less zs[k].1.sum one.1.sum with
  |false=>rfl
  |true=>rw[less_trans hlt2 h] at hyn;cases hyn
 unfold zQ;rw[h1,hd,List.take_succ_eq_append_getElem hlt,List.filter_append,List.filter_append];simp[hl]
theorem zQ_yes {zs:List (Kd×Value)} (one:Kd×Value) (hd:zD zs one.1.sum=true):zQ zs one=insZ zs one:=by
 unfold zQ insZ;rw[hd];rfl
theorem zQ_no {zs:List (Kd×Value)} (one:Kd×Value) (hd:zD zs one.1.sum=false):zQ zs one++[one]=insZ zs one:=by
 unfold zQ insZ;rw[hd,zQ_above hd];simp
theorem zQ_len (zs:List (Kd×Value)) (one:Kd×Value):(zQ zs one).length<=zs.length+1:=by
 have h:∀(l:List (Kd×Value)),(l.filter (fun z=>less z.1.sum one.1.sum)).length+(l.filter (fun z=> !(less z.1.sum one.1.sum))).length=l.length:=by
  intro l;induction l with
  |nil=>rfl
  |cons y l ih=>cases hl:less y.1.sum one.1.sum<;>simp[hl]<;>omega
 have:=h zs;unfold zQ;rw[List.length_append,List.length_append];split<;>simp<;>omega
theorem find_ge {ks:List Kd} {s:ByteArray} (h:There ks s):∃(i:Nat) (k:Kd),findI ks s=(i:Int)/\ks[i]?=some k/\k.sum=s:=by
 rcases findI_cases ks s with⟨_,hn⟩|⟨i,k,e,h1,h2⟩
 ·exact absurd h hn
 ·exact⟨i,k,e,h1,h2⟩
theorem find_lt {ks:List Kd} {s:ByteArray} (h:¬There ks s):findI ks s<0:=by
 rcases findI_cases ks s with⟨e,_⟩|⟨i,k,e,h1,h2⟩
 ·omega
 ·exact absurd ⟨k,List.mem_of_getElem? h1,h2⟩ h
end Go.Proofs.YthkmpihfhkmaoaaGreatDoor
namespace Go.Proofs.YthkmpihfhkmaoaaGreatDoor
open Go.ChangeShapes Go.WideShapes Go.ChangeAt Go.RowKit
set_option maxRecDepth 20000 in
set_option maxHeartbeats 4000000 in
theorem l4Copy_nil (w:World):
 Calls Tryz.prog 37 #[.agg #[.int .i64 0,.int .i64 0,.int .i64 0,.int .i64 0,.slice none 0 0,.slice none 0 0,.slice none 0 0]] w fun e w'=>∃ta tn tc pa pn pc la ln lc,e=.returned (.agg #[.int .i64 0,.int .i64 0,.int .i64 0,.int .i64 0,.slice ta tn tc,.slice pa pn pc,.slice la ln lc])/\Below w.heap.size w w':=by
 obtain⟨W,hW⟩:∃W,W=(((w.alloc (.cells #[.int .i64 0,.int .i64 0,.int .i64 0,.int .i64 0,.slice none 0 0,.slice none 0 0,.slice none 0 0] 38)).alloc (.cells #[.int .i64 0,.int .i64 0,.int .i64 0,.int .i64 0,.slice none 0 0,.slice none 0 0,.slice none 0 0] 38)).alloc (.cells #[.int .i64 0,.int .i64 0,.int .i64 0,.int .i64 0,.slice (some ⟨w.heap.size+1+1+1,0,none⟩) 0 0,.slice none 0 0,.slice none 0 0] 38)).alloc (.cells #[] 114):=⟨_,rfl⟩
 have bW:Below w.heap.size w W:=by rw[hW];exact((((Below.refl _ _).alloc (Nat.le_refl _) _).alloc (by simp) _).alloc (by simp;omega) _).alloc (by simp;omega) _
 have hzW:W.heap.size=w.heap.size+4:=by rw[hW];simp
 have x0:CellsAt W w.heap.size [.int .i64 0,.int .i64 0,.int .i64 0,.int .i64 0,.slice none 0 0,.slice none 0 0,.slice none 0 0]:=by
  rw[hW];exact CellsAt.below (CellsAt.new w _ _) ((((Below.refl _ _).alloc (Nat.le_refl _) _).alloc (by simp) _).alloc (by simp<;>omega) _)
 have x1:CellsAt W (w.heap.size+1) z7:=by
  have h1:=CellsAt.new (w.alloc (.cells #[.int .i64 0,.int .i64 0,.int .i64 0,.int .i64 0,.slice none 0 0,.slice none 0 0,.slice none 0 0] 38)) z7 38;rw[World.size_alloc] at h1;rw[hW];exact CellsAt.below (v:=.int .i64 0) (l:=z7.tail) h1 (((Below.refl _ _).alloc (Nat.le_refl _) _).alloc (by simp) _)
 have x2:CellsAt W (w.heap.size+2) [.int .i64 0,.int .i64 0,.int .i64 0,.int .i64 0,.slice (some ⟨w.heap.size+1+1+1,0,none⟩) 0 0,.slice none 0 0,.slice none 0 0]:=by
  have h1:=CellsAt.new ((w.alloc (.cells #[.int .i64 0,.int .i64 0,.int .i64 0,.int .i64 0,.slice none 0 0,.slice none 0 0,.slice none 0 0] 38)).alloc (.cells #[.int .i64 0,.int .i64 0,.int .i64 0,.int .i64 0,.slice none 0 0,.slice none 0 0,.slice none 0 0] 38)) [.int .i64 0,.int .i64 0,.int .i64 0,.int .i64 0,.slice (some ⟨w.heap.size+1+1+1,0,none⟩) 0 0,.slice none 0 0,.slice none 0 0] 38
  rw[World.size_alloc,World.size_alloc] at h1;rw[hW];exact CellsAt.below h1 ((Below.refl _ _).alloc (Nat.le_refl _) _)
 obtain⟨i0,hi,hz0,hz1,hz2⟩:=info_parts Tryz.infoPin;obtain⟨j0,hj,hy0,hy1,hy2⟩:=info_parts Tryz.infoLease;have hrP:∀(g:Nat) (X:World) (ty:TypeId),(Builtin.append_ #[35,35] ty #[.slice (some ⟨g,0,none⟩) 0 0,.slice none 0 0]).run Tryz.prog X=.ok (.slice (some ⟨g,0,none⟩) 0 0) X:=fun g X ty=>by
  simp[Builtin.append_,run_underlying Tryz.underlying35,sizeOf,typeInfo,hi,Builtin.lenOf,Builtin.firstCells,storeCells]
 have hrL:∀(g:Nat) (X:World) (ty:TypeId),(Builtin.append_ #[36,36] ty #[.slice (some ⟨g,0,none⟩) 0 0,.slice none 0 0]).run Tryz.prog X=.ok (.slice (some ⟨g,0,none⟩) 0 0) X:=fun g X ty=>by
  simp[Builtin.append_,run_underlying Tryz.underlying36,sizeOf,typeInfo,hj,Builtin.lenOf,Builtin.firstCells,storeCells]
 have HW:Hid _:=hW;obtain⟨v0,_⟩:=x0 0 _ rfl;obtain⟨v1,_⟩:=x0 1 _ rfl;obtain⟨v2,_⟩:=x0 2 _ rfl;obtain⟨v3,_⟩:=x0 3 _ rfl;obtain⟨v4,_⟩:=x0 4 _ rfl;obtain⟨v5,_⟩:=x0 5 _ rfl;obtain⟨v6,_⟩:=x0 6 _ rfl;obtain⟨y0,q0⟩:=x1 0 _ rfl;obtain⟨y1,q1⟩:=x1 1 _ rfl;obtain⟨y2,q2⟩:=x1 2 _ rfl;obtain⟨y3,q3⟩:=x1 3 _ rfl;obtain⟨y4,q4⟩:=x1 4 _ rfl;obtain⟨y5,q5⟩:=x1 5 _ rfl;obtain⟨y6,q6⟩:=x1 6 _ rfl;obtain⟨p0,_⟩:=x2 0 _ rfl
 obtain⟨p1,_⟩:=x2 1 _ rfl;obtain⟨p2,_⟩:=x2 2 _ rfl;obtain⟨p3,_⟩:=x2 3 _ rfl;obtain⟨p4,_⟩:=x2 4 _ rfl;obtain⟨p5,r5⟩:=x2 5 _ rfl;obtain⟨p6,r6⟩:=x2 6 _ rfl;have h1:w.heap.size<W.heap.size:=by omega
 have h2:w.heap.size+1<W.heap.size:=by omega
 have h3:w.heap.size+2<W.heap.size:=by omega
 have HzW:Hid (W.heap.size=w.heap.size+4):=hzW;clear hW x0 x1 x2 hzW;go_enter Tryz.func37,Tryz.ntmps37;go_upto_region 3 with fail;rw[←HW.out];clear HW;go_wp2
 go_loopw [4] (fun i wr=>i=.int .i64 0/\wr=W) (fun _ _=>0)
 case atStart=>exact⟨rfl,rfl⟩
 case round=>
  obtain⟨rfl,rfl⟩:=hrel;go_wp2_with (first|(at_builtin;refine wpList_append_run rfl _ _ 35 35 rfl rfl rfl (hrP _ _ _) ?_)|(at_builtin;refine wpList_append_run rfl _ _ 36 36 rfl rfl rfl (hrL _ _ _) ?_));have h2':w.heap.size+1<wr.heap.size+1:=by omega
  refine bodyPost_ret (v:=.agg #[.int .i64 0,.int .i64 0,.int .i64 0,.int .i64 0,.slice (some ⟨w.heap.size+1+1+1,0,none⟩) 0 0,.slice (some ⟨wr.heap.size,0,none⟩) 0 0,.slice (some ⟨wr.heap.size+1,0,none⟩) 0 0]) (by simp[results,Tryz.results37,go_sem,y0,y1,y2,y3,y4,y5,y6,h2,h2']) rfl ?_;have hz:=HzW.out;have k1:w.heap.size<=w.heap.size+1:=by omega
  have k2:w.heap.size<=w.heap.size+1+1:=by omega
  have b9:=((((((((bW.setCell (p:=⟨w.heap.size+1+1,5,none⟩) k2 (.slice (some ⟨wr.heap.size,0,none⟩) 0 0)).setCell (p:=⟨w.heap.size+1+1,6,none⟩) k2 (.slice (some ⟨wr.heap.size+1,0,none⟩) 0 0)).setCell (p:=⟨w.heap.size+1,0,none⟩) k1 (.int .i64 0)).setCell (p:=⟨w.heap.size+1,1,none⟩) k1 (.int .i64 0)).setCell (p:=⟨w.heap.size+1,2,none⟩) k1 (.int .i64 0)).setCell (p:=⟨w.heap.size+1,3,none⟩) k1 (.int .i64 0)).setCell (p:=⟨w.heap.size+1,4,none⟩) k1 (.slice (some ⟨w.heap.size+1+1+1,0,none⟩) 0 0)).setCell (p:=⟨w.heap.size+1,5,none⟩) k1 (.slice (some ⟨wr.heap.size,0,none⟩) 0 0)).setCell (p:=⟨w.heap.size+1,6,none⟩) k1 (.slice (some ⟨wr.heap.size+1,0,none⟩) 0 0)
  exact⟨_,_,_,_,_,_,_,_,_,rfl,(b9.alloc (by simp;omega) _).alloc (by simp;omega) _⟩
set_option maxRecDepth 20000 in
set_option maxHeartbeats 4000000 in
theorem l4Drop_missing (wd now given births:Int) (a p l:Option Addr) (tc pn pc ln lc:Nat) (ks:List Kd) (s:ByteArray) (w:World) (hks:KRow w w.heap.size a ks) (hkl:ks.length<=1000) (hth:¬There ks s):
 Calls Tryz.prog 91 #[.agg #[.int .i64 wd,.int .i64 now,.int .i64 given,.int .i64 births,.slice a ks.length tc,.slice p pn pc,.slice l ln lc],.string s] w fun e w'=>e=.returned (.agg (refC 2 ⟨#[]⟩ ⟨#[]⟩).toArray)/\Below w.heap.size w w':=by
 obtain⟨W,hW⟩:∃W,W=(w.alloc (.cells #[.int .i64 wd,.int .i64 now,.int .i64 given,.int .i64 births,.slice a ks.length tc,.slice p pn pc,.slice l ln lc] 38)).alloc (.cells #[.int .i64 0,.int .i64 0,.int .i64 0,.int .i64 0,.int .i64 0,.slice none 0 0,.slice none 0 0,.slice none 0 0,.string ⟨#[]⟩,.int .i64 0,.string ⟨#[]⟩,.string ⟨#[]⟩] 40):=⟨_,rfl⟩
 have bW:Below w.heap.size w W:=by rw[hW];exact((Below.refl _ _).alloc (Nat.le_refl _) _).alloc (by simp) _
 have x0:CellsAt W w.heap.size [.int .i64 wd,.int .i64 now,.int .i64 given,.int .i64 births,.slice a ks.length tc,.slice p pn pc,.slice l ln lc]:=by rw[hW];exact CellsAt.below (CellsAt.new w _ _) ((Below.refl _ _).alloc (Nat.le_refl _) _)
 have x1:CellsAt W (w.heap.size+1) z12:=by
  have h1:=CellsAt.new (w.alloc (.cells #[.int .i64 wd,.int .i64 now,.int .i64 given,.int .i64 births,.slice a ks.length tc,.slice p pn pc,.slice l ln lc] 38)) z12 40;rw[World.size_alloc] at h1;rw[hW];exact h1
 have HF:Hid _:=find_any wd now given births a tc (.slice p pn pc) (.slice l ln lc) ks s W w.heap.size (KRow.below hks bW) bW.size (by omega);have hfl:=find_lt hth;have HW:Hid _:=hW;have HX1:Hid (CellsAt W (w.heap.size+1) z12):=x1;obtain⟨v0,v1,v2,v3,v4,v5,v6,v7⟩:=sbox_of x0;clear hW x0 x1 hks hth;go_enter Tryz.func91,Tryz.ntmps91;go_upto_region 1 with fail;rw[←HW.out];clear HW;go_wp2_with fail
 refine Calls.mono HF.out ?_;rintro e w1 ⟨rfl,hb1⟩;obtain⟨⟨y0,q0⟩,⟨y1,q1⟩,⟨y2,q2⟩,⟨y3,q3⟩,⟨y4,q4⟩,⟨y5,q5⟩,⟨y6,q6⟩,⟨y7,q7⟩,⟨y8,q8⟩,⟨y9,q9⟩,⟨y10,q10⟩,y11,q11⟩:=z12at (CellsAt.below (v:=.int .i64 0) HX1.out hb1);have hB:Below w.heap.size w w1:=bW.trans (hb1.mono bW.size);generalize findI ks s=fi at *
 clear v0 v1 v2 v3 v4 v5 v6 v7 HF;go_wp2;refine bodyPost_ret (v:=.agg (refC 2 ⟨#[]⟩ ⟨#[]⟩).toArray) (by simp[results,Tryz.results91,go_sem,y0,y1,y2,y3,y4,y5,y6,y7,y8,y9,y10,y11,refC]) rfl ?_;exact⟨rfl,hB.trans (Tn.below (tn12 w1 (w.heap.size+1) _ _ _ _ _ _ _ _ _ _ _ _) hB.size (by intro v hv;simp at hv;omega))⟩
end Go.Proofs.YthkmpihfhkmaoaaGreatDoor
