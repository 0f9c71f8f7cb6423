import Derived.Test.YthkmpihfhkmaoaaGreatDoorV10
import Derived.Test.YthkmpihfhkmaoaaGreatDoorV03
import Derived.Test.YthkmpihfhkmaoaaGreatDoorV04
import Derived.Test.YthkmpihfhkmaoaaGreatDoorV01
namespace Go.Proofs.YthkmpihfhkmaoaaGreatDoor
open Go.ChangeShapes Go.WideShapes Go.ChangeAt Go.RowKit
structure PlaceP (ls:List Pd) (n:ByteArray) (i:Nat):Prop where
 le:i<=ls.length
 lo:∀j x,j<i->ls[j]?=some x->less x.name n=true
 hi:∀j x,i<=j->ls[j]?=some x->less x.name n=false
set_option maxRecDepth 20000 in
set_option maxHeartbeats 4000000 in
theorem searchPin_any (g cap:Nat) (ls:List Pd) (n:ByteArray) (w:World) (base:Nat) (ho:w.ownsRow base 130 2 (.slice (some ⟨g,0,none⟩) ls.length cap) ls.length (rowC pC ls)) (hl:ls.length<=600) (hsort:ls.Pairwise (fun a b=>less a.name b.name=true)):
 Calls Tryz.prog 199 #[.slice (some ⟨g,0,none⟩) ls.length cap,.string n,.func (.func 200) #[] #[]] w fun e w'=>∃i:Nat,e=.returned (.tuple #[.int .i64 i,.bool (decide (∃x,ls[i]?=some x/\x.name=n))])/\PlaceP ls n i/\Below w.heap.size w w':=by
 have hgl:g<w.heap.size:=(own_lt ho rfl).2;have HO:Hid (w.ownsRow base 130 2 (.slice (some ⟨g,0,none⟩) ls.length cap) ls.length (rowC pC ls)):=ho;have HR:Hid (∀(X:World),Below w.heap.size w X->∀k x,ls[k]?=some x->X.cell? ⟨g,k *2,none⟩=some (.string x.name)/\X.cell? ⟨g,k *2+1,none⟩=some (.string x.sum)):=fun X hX k x hx=>by
  have h:=own_below ho hX;have hk:=(List.getElem?_eq_some_iff.1 hx).1;have hc:∀j,j<2->X.cell? ⟨g,k *2+j,none⟩=(pC x)[j]?:=fun j hj=>(h.cellAt (k *2+j) (by omega)).trans (row_get pC_len hx hj);exact⟨by simpa [pC] using hc 0 (by decide),by simpa [pC] using hc 1 (by decide)⟩
 have HS:Hid (ls.Pairwise (fun a b=>less a.name b.name=true)):=hsort;clear ho hsort;go_enter Tryz.func199,Tryz.ntmps199;have hef:∀args w,(callFunc 200 args).run Tryz.prog w=.ok (.enter 200 args) w:=enters_of Tryz.func200 (by kernel_rfl) rfl;go_wp2
 go_loopw [9,10] (fun i j wr=>∃lo hi:Nat,i=.int .i64 lo/\j=.int .i64 hi/\lo<=hi/\hi<=ls.length/\Hid ((∀j x,j<lo->ls[j]?=some x->less x.name n=true)/\(∀j x,hi<=j->ls[j]?=some x->less x.name n=false))/\Below w.heap.size w wr) (fun i j _=>(intOf j).toNat -(intOf i).toNat)
 case atStart=>exact⟨0,ls.length,rfl,rfl,Nat.zero_le _,Nat.le_refl _,⟨fun j x h=>by omega,fun j x h hx=>by have:=(List.getElem?_eq_some_iff.1 hx).1;omega⟩,Below.refl _ _⟩
 case round=>
  obtain⟨lo,hi,rfl,rfl,hlh,hin,HI,hbel⟩:=hrel;have hzr:=hbel.size;by_cases hlt:lo<hi
  ·have hml:(lo+hi)/2<ls.length:=by omega
   have HG:Hid (ls[(lo+hi)/2]?=some ls[(lo+hi)/2]):=List.getElem?_eq_getElem hml;generalize ls[(lo+hi)/2]=x at *
   obtain⟨r0,r1⟩:=HR.out wr hbel _ _ HG.out;go_wp2_with fail;refine(place1_any x n wr).mono ?_;rintro e w1 ⟨rfl,hb1⟩;have hB1:=hbel.trans (hb1.mono hzr);clear r0 r1;by_cases hc:less x.name n=true
   ·have hd:decide (cmpS x.name n<0)=true:=by simpa using (cmpS_neg _ _).2 hc
    have HC:Hid (less x.name n=true):=hc;clear hc;generalize cmpS x.name n=cv at *
    go_wp2;refine⟨⟨(lo+hi)/2+1,hi,by go_num,rfl,by omega,hin,⟨?_,HI.out.2⟩,hB1⟩,by simp[intOf];omega⟩;intro j y hj hy;rcases Nat.lt_or_ge j ((lo+hi)/2) with h|h
    ·have:=List.pairwise_iff_getElem.1 HS.out j ((lo+hi)/2) (by omega) hml h
     obtain⟨_,rfl⟩:=List.getElem?_eq_some_iff.1 hy;obtain⟨_,e⟩:=List.getElem?_eq_some_iff.1 HG.out;rw[e] at this;exact less_trans this HC.out
    ·obtain rfl:j=(lo+hi)/2:=by omega
     rw[HG.out] at hy;cases hy;exact HC.out
   ·have hd:decide (cmpS x.name n<0)=false:=by simpa using fun e=>hc ((cmpS_neg _ _).1 e)
    have HC:Hid (less x.name n=false):=by show _=_;simpa using hc
    clear hc;generalize cmpS x.name n=cv at *
    go_wp2;refine⟨⟨lo,(lo+hi)/2,rfl,by go_num,by omega,by omega,⟨HI.out.1,?_⟩,hB1⟩,by simp[intOf];omega⟩;intro j y hj hy;rcases Nat.lt_or_ge ((lo+hi)/2) j with h|h
    ·have hjl:=(List.getElem?_eq_some_iff.1 hy).1
     have:=List.pairwise_iff_getElem.1 HS.out ((lo+hi)/2) j hml hjl h;obtain⟨_,rfl⟩:=List.getElem?_eq_some_iff.1 hy;obtain⟨_,e⟩:=List.getElem?_eq_some_iff.1 HG.out;rw[e] at this;have h3:=HC.out;cases h':less ls[j].name n with
     |false=>rfl
     |true=>rw[less_trans this h'] at h3;cases h3
    ·obtain rfl:j=(lo+hi)/2:=by omega
     rw[HG.out] at hy;cases hy;exact HC.out
  ·obtain rfl:lo=hi:=by omega
   have HP:Hid (PlaceP ls n lo):=⟨hin,HI.out.1,HI.out.2⟩;by_cases hn:lo<ls.length
   ·have HG:Hid (ls[lo]?=some ls[lo]):=List.getElem?_eq_getElem hn
    generalize ls[lo]=x at *
    obtain⟨r0,r1⟩:=HR.out wr hbel _ _ HG.out;have hn':(lo:Int)<ls.length:=by omega
    go_wp2_with fail;refine(place1_any x n wr).mono ?_;rintro e w1 ⟨rfl,hb1⟩;have hB1:=hbel.trans (hb1.mono hzr);clear r0 r1;have HD:Hid (decide (∃y,ls[lo]?=some y/\y.name=n)=(cmpS x.name n==0)):=by
     show _=_;rw[HG.out];by_cases h:x.name=n
     ·rw[(cmpS_zero x.name n).2 h]
      simp[h]
     ·have h0:¬cmpS x.name n=0:=fun e=>h ((cmpS_zero x.name n).1 e)
      rw[show(cmpS x.name n==0)=false by simpa using h0];simp[h]
    generalize cmpS x.name n=cv at *
    go_wp2
    go_ret2
    exact⟨lo,by rw[HD.out];first|rfl|simp[Act.put],HP.out,hB1⟩
   ·have HD:Hid (decide (∃y,ls[lo]?=some y/\y.name=n)=false):=by
     show _=_;rw[List.getElem?_eq_none (by omega)];simp
    have hn':¬((lo:Int)<ls.length):=by omega
    go_wp2
    go_ret2
    exact⟨lo,by rw[HD.out];first|rfl|simp[Act.put],HP.out,hbel⟩
end Go.Proofs.YthkmpihfhkmaoaaGreatDoor
namespace Go.Proofs.YthkmpihfhkmaoaaGreatDoor
open Go.ChangeShapes Go.WideShapes Go.ChangeAt Go.RowKit
theorem own_some' {w:World} {base:Nat} {e:TypeId} {size:Nat} {v:Value} {n:Nat} {xs:List Value} (h:w.ownsRow base e size v n xs) (hn:0<n):∃g cap,v=.slice (some ⟨g,0,none⟩) n cap:=by
 rcases h.2 with⟨_,hz⟩|⟨g,cap,cur,rfl,_⟩
 ·omega
 ·exact⟨g,cap,rfl⟩
theorem PlaceN.at {ls:List Ld} {n:Int} {i:Nat} (h:PlaceN ls n i) (hth:∃x∈ls,x.num=n) (hsort:ls.Pairwise (fun a b=>a.num<b.num)):∃x,ls[i]?=some x/\x.num=n:=by
 obtain⟨x,hx,hn⟩:=hth;obtain⟨j,hj⟩:=List.getElem?_of_mem hx;have hjl:=(List.getElem?_eq_some_iff.1 hj).1;have hij:i=j:=by
  rcases Nat.lt_trichotomy i j with h'|h'|h'
  ·have h1:=h.hi i ls[i] (Nat.le_refl _) (List.getElem?_eq_getElem (by omega))
   have h2:=List.pairwise_iff_getElem.1 hsort i j (by omega) hjl h';obtain⟨_,e⟩:=List.getElem?_eq_some_iff.1 hj;rw[e] at h2;omega
  ·exact h'
  ·have:=h.lo j x h' hj
   omega
 exact⟨x,hij▸hj,hn⟩
theorem PlaceP.at {ls:List Pd} {n:ByteArray} {i:Nat} (h:PlaceP ls n i) (hth:∃x∈ls,x.name=n) (hsort:ls.Pairwise (fun a b=>less a.name b.name=true)):∃x,ls[i]?=some x/\x.name=n:=by
 obtain⟨x,hx,hn⟩:=hth;obtain⟨j,hj⟩:=List.getElem?_of_mem hx;have hjl:=(List.getElem?_eq_some_iff.1 hj).1;have hij:i=j:=by
  rcases Nat.lt_trichotomy i j with h'|h'|h'
  ·have h1:=h.hi i ls[i] (Nat.le_refl _) (List.getElem?_eq_getElem (by omega))
   have h2:=List.pairwise_iff_getElem.1 hsort i j (by omega) hjl h';obtain⟨_,e⟩:=List.getElem?_eq_some_iff.1 hj;rw[e,hn] at h2;rw[h2] at h1;cases h1
  ·exact h'
  ·have:=h.lo j x h' hj
   rw[hn,less_irrefl] at this;cases this
 exact⟨x,hij▸hj,hn⟩
def giveL (ls:List Ld) (n:Int):List Ld:=ls.filter (fun x=> !decide (x.num=n))
def unpinP (ps:List Pd) (n:ByteArray):List Pd:=ps.filter (fun x=> !decide (x.name=n))
theorem filter_erase {A:Type} {q:A->Bool}:∀{xs:List A} {i:Nat} {x:A},xs[i]?=some x->q x=false->(∀j y,xs[j]?=some y->j≠i->q y=true)->xs.filter q=xs.eraseIdx i
 |[],i,x,hx,_,_=>by simp at hx
 |y::ys,0,x,hx,hq,ho=>by
  simp only[List.getElem?_cons_zero,Option.some.injEq] at hx;subst hx;rw[List.filter_cons,hq,List.eraseIdx_cons_zero];simp only[Bool.false_eq_true,if_false];exact List.filter_eq_self.2 (fun z hz=>by
   obtain⟨j,hj⟩:=List.getElem?_of_mem hz;exact ho (j+1) z (by simpa using hj) (by omega))
 |y::ys,i+1,x,hx,hq,ho=>by
  have hy:=ho 0 y (by simp) (by omega);rw[List.filter_cons,hy,List.eraseIdx_cons_succ];simp only[if_true];rw[filter_erase (i:=i) (x:=x) (by simpa using hx) hq (fun j z hj hne=>ho (j+1) z (by simpa using hj) (by omega))]
theorem giveL_erase {ls:List Ld} {n:Int} {i:Nat} {x:Ld} (hx:ls[i]?=some x) (hn:x.num=n) (hsort:ls.Pairwise (fun a b=>a.num<b.num)):giveL ls n=ls.eraseIdx i:=by
 refine filter_erase hx (by simp[hn]) (fun j y hj hne=> ?_);have hil:=(List.getElem?_eq_some_iff.1 hx).1;have hjl:=(List.getElem?_eq_some_iff.1 hj).1;obtain⟨_,e1⟩:=List.getElem?_eq_some_iff.1 hx;obtain⟨_,e2⟩:=List.getElem?_eq_some_iff.1 hj;rcases Nat.lt_or_gt_of_ne hne with h|h
 ·have:=List.pairwise_iff_getElem.1 hsort j i hjl hil h
  rw[e1,e2] at this;simp;omega
 ·have:=List.pairwise_iff_getElem.1 hsort i j hil hjl h
  rw[e1,e2] at this;simp;omega
theorem unpinP_erase {ls:List Pd} {n:ByteArray} {i:Nat} {x:Pd} (hx:ls[i]?=some x) (hn:x.name=n) (hsort:ls.Pairwise (fun a b=>less a.name b.name=true)):unpinP ls n=ls.eraseIdx i:=by
 refine filter_erase hx (by simp[hn]) (fun j y hj hne=> ?_);have hil:=(List.getElem?_eq_some_iff.1 hx).1;have hjl:=(List.getElem?_eq_some_iff.1 hj).1;obtain⟨_,e1⟩:=List.getElem?_eq_some_iff.1 hx;obtain⟨_,e2⟩:=List.getElem?_eq_some_iff.1 hj;have hne':y.name≠n:=fun e=>by
  rcases Nat.lt_or_gt_of_ne hne with h|h
  ·have:=List.pairwise_iff_getElem.1 hsort j i hjl hil h
   rw[e1,e2,e,hn,less_irrefl] at this;cases this
  ·have:=List.pairwise_iff_getElem.1 hsort i j hil hjl h
   rw[e1,e2,e,hn,less_irrefl] at this;cases this
 simpa using hne'
set_option maxRecDepth 20000 in
set_option maxHeartbeats 4000000 in
theorem give_yes (base d m:Nat) (O P L:Value) (wd now given births:Int) (ks:List Kd) (ps:List Pd) (ls:List Ld) (n:Int) (w:World) (h:DU w base d m O P L wd now given births ks ps ls) (hl:ls.length<=200) (hsort:ls.Pairwise (fun a b=>a.num<b.num)) (hth:∃x∈ls,x.num=n):
 Calls Tryz.prog 147 #[.pointer (some ⟨d,0,none⟩),.int .i64 n] w fun e w'=>e=.returned (.tuple #[])/\∃L',DU w' base d m O P L' wd now given births ks ps (giveL ls n)/\Tn (d::L.ownBlock.toList) w w':=by
 have hpos:0<ls.length:=by obtain⟨x,hx,_⟩:=hth;exact List.length_pos_of_mem hx
 obtain⟨g,cap,hLe⟩:=own_some' h.dr.lea hpos;subst hLe;have HD:Hid (DU w base d m O P (.slice (some ⟨g,0,none⟩) ls.length cap) wd now given births ks ps ls):=h;have HSo:Hid (ls.Pairwise (fun a b=>a.num<b.num)):=hsort;have HTh:Hid (∃x∈ls,x.num=n):=hth;have HS:Hid _:=searchLease_any g cap ls n w base h.dr.lea (by omega) hsort;obtain⟨c7,_⟩:=h.dr.box 7 _ rfl;clear h hsort hth
 go_enter Tryz.func147,Tryz.ntmps147;go_wp2_with fail;refine Calls.mono HS.out ?_;rintro e w1 ⟨i,rfl,hp1,hb1⟩;obtain⟨x,hxi,hxn⟩:=hp1.at HTh.out HSo.out;have hdec:decide (∃x,ls[i]?=some x/\x.num=n)=true:=by simpa using ⟨x,hxi,hxn⟩
 have hil:i<ls.length:=(List.getElem?_eq_some_iff.1 hxi).1;have HE:Hid (giveL ls n=ls.eraseIdx i):=giveL_erase hxi hxn HSo.out;have hD1:=HD.out.below hb1;have HD1:Hid (DU w1 base d m O P (.slice (some ⟨g,0,none⟩) ls.length cap) wd now given births ks ps ls):=hD1;have HB1:Hid (Below w.heap.size w w1):=hb1;have HDel:Hid _:=deleteLease_any g cap i ls w1 base hD1.dr.lea (by omega) hil
 obtain⟨e7,_⟩:=hD1.dr.box 7 _ rfl;rw[hdec];clear hdec hxi hxn hp1 hD1 hb1 HD HS HTh HSo c7;go_wp2_with fail;refine Calls.mono HDel.out ?_;rintro e w2 ⟨rfl,ho2,hg2⟩;have hne:∀b,(Value.slice (some ⟨g,0,none⟩) (ls.length -1) cap).ownBlock=some b->b≠d:=fun b hb=>((ap_parts HD1.out.dr.ap).2.2.2 b hb).1
 have hbox2:CellsAt w2 d [.int .i64 wd,.map (some m),.int .i64 now,.int .i64 given,.int .i64 births,O,P,.slice (some ⟨g,0,none⟩) ls.length cap]:=CellsAt.same HD1.out.dr.box (hg2.block d HD1.out.dr.box.lt (fun e=>hne g rfl (Option.some.inj e).symm));obtain⟨f7,k7⟩:=hbox2 7 _ rfl
 have hK:∃L',DU (w2.setCell ⟨d,7,none⟩ (.slice (some ⟨g,0,none⟩) (ls.length -1) cap)) base d m O P L' wd now given births ks ps (giveL ls n)/\Tn (d::(Value.slice (some ⟨g,0,none⟩) ls.length cap).ownBlock.toList) w (w2.setCell ⟨d,7,none⟩ (.slice (some ⟨g,0,none⟩) (ls.length -1) cap)):=by
  have t1:Tn (d::(Value.slice (some ⟨g,0,none⟩) ls.length cap).ownBlock.toList) w1 (w2.setCell ⟨d,7,none⟩ (.slice (some ⟨g,0,none⟩) (ls.length -1) cap)):=
   ((tn_grown hg2).mono (by intro b hb;simp[Value.ownBlock] at hb ⊢;exact .inr hb)).trans ((tn1 w2 d 7 _).mono (by simp))
  refine⟨_,HD1.out.newL t1 (hbox2.set 7 _) ?_ (.inl rfl),(Tn.of HB1.out).trans t1⟩;rw[HE.out,List.length_eraseIdx,if_pos hil];exact own_set ho2 hne 7 _
 have HK:Hid _:=hK;clear hK ho2 hg2 hbox2 e7;go_wp2
 go_end0
 exact⟨rfl,HK.out⟩
set_option maxHeartbeats 1000000 in
theorem pinPlace_any (base d m:Nat) (O L:Value) (g cap:Nat) (wd now given births:Int) (ks:List Kd) (ps:List Pd) (ls:List Ld) (n:ByteArray) (w:World) (h:DU w base d m O (.slice (some ⟨g,0,none⟩) ps.length cap) L wd now given births ks ps ls) (hl:ps.length<=200) (hsort:ps.Pairwise (fun a b=>less a.name b.name=true)):
 Calls Tryz.prog 171 #[.pointer (some ⟨d,0,none⟩),.string n] w fun e w'=>∃i:Nat,e=.returned (.tuple #[.int .i64 i,.bool (decide (∃x,ps[i]?=some x/\x.name=n))])/\PlaceP ps n i/\Below w.heap.size w w':=by
 have HS:Hid _:=searchPin_any g cap ps n w base h.dr.pin (by omega) hsort;obtain⟨c6,_⟩:=h.dr.box 6 _ rfl;clear h hsort;go_enter Tryz.func171,Tryz.ntmps171;go_wp2_with fail;refine Calls.mono HS.out ?_;rintro e w1 ⟨i,rfl,hp1,hb1⟩;obtain⟨bb,hbb⟩:∃bb,decide (∃x,ps[i]?=some x/\x.name=n)=bb:=⟨_,rfl⟩;have HBB:Hid (decide (∃x,ps[i]?=some x/\x.name=n)=bb):=hbb;rw[hbb];clear hbb;go_wp2
 go_ret2
 exact⟨i,by rw[HBB.out];rfl,hp1,hb1⟩
set_option maxRecDepth 20000 in
set_option maxHeartbeats 4000000 in
theorem unpin_yes (base d m:Nat) (O P L:Value) (wd now given births:Int) (ks:List Kd) (ps:List Pd) (ls:List Ld) (n:ByteArray) (w:World) (h:DU w base d m O P L wd now given births ks ps ls) (hl:ps.length<=200) (hsort:ps.Pairwise (fun a b=>less a.name b.name=true)) (hth:∃x∈ps,x.name=n):
 Calls Tryz.prog 146 #[.pointer (some ⟨d,0,none⟩),.string n] w fun e w'=>e=.returned (.tuple #[])/\∃P',DU w' base d m O P' L wd now given births ks (unpinP ps n) ls/\Tn (d::P.ownBlock.toList) w w':=by
 have hpos:0<ps.length:=by obtain⟨x,hx,_⟩:=hth;exact List.length_pos_of_mem hx
 obtain⟨g,cap,hLe⟩:=own_some' h.dr.pin hpos;subst hLe;have HD:Hid (DU w base d m O (.slice (some ⟨g,0,none⟩) ps.length cap) L wd now given births ks ps ls):=h;have HSo:Hid (ps.Pairwise (fun a b=>less a.name b.name=true)):=hsort;have HTh:Hid (∃x∈ps,x.name=n):=hth;have HS:Hid _:=pinPlace_any base d m O L g cap wd now given births ks ps ls n w h hl hsort;clear h hsort hth
 go_enter Tryz.func146,Tryz.ntmps146;go_wp2_with fail;refine Calls.mono HS.out ?_;rintro e w1 ⟨i,rfl,hp1,hb1⟩;obtain⟨x,hxi,hxn⟩:=hp1.at HTh.out HSo.out;have hdec:decide (∃x,ps[i]?=some x/\x.name=n)=true:=by simpa using ⟨x,hxi,hxn⟩
 have hil:i<ps.length:=(List.getElem?_eq_some_iff.1 hxi).1;have HE:Hid (unpinP ps n=ps.eraseIdx i):=unpinP_erase hxi hxn HSo.out;have hD1:=HD.out.below hb1;have HD1:Hid (DU w1 base d m O (.slice (some ⟨g,0,none⟩) ps.length cap) L wd now given births ks ps ls):=hD1;have HB1:Hid (Below w.heap.size w w1):=hb1;have HDel:Hid _:=deletePin_any g cap i ps w1 base hD1.dr.pin (by omega) hil
 obtain⟨e6,_⟩:=hD1.dr.box 6 _ rfl;rw[hdec];clear hdec hxi hxn hp1 hD1 hb1 HD HS HTh HSo;go_wp2_with fail;refine Calls.mono HDel.out ?_;rintro e w2 ⟨rfl,ho2,hg2⟩;have hne:∀b,(Value.slice (some ⟨g,0,none⟩) (ps.length -1) cap).ownBlock=some b->b≠d:=fun b hb=>((ap_parts HD1.out.dr.ap).2.2.1 b hb).1
 have hbox2:CellsAt w2 d [.int .i64 wd,.map (some m),.int .i64 now,.int .i64 given,.int .i64 births,O,.slice (some ⟨g,0,none⟩) ps.length cap,L]:=CellsAt.same HD1.out.dr.box (hg2.block d HD1.out.dr.box.lt (fun e=>hne g rfl (Option.some.inj e).symm));obtain⟨f6,k6⟩:=hbox2 6 _ rfl
 have hK:∃P',DU (w2.setCell ⟨d,6,none⟩ (.slice (some ⟨g,0,none⟩) (ps.length -1) cap)) base d m O P' L wd now given births ks (unpinP ps n) ls/\Tn (d::(Value.slice (some ⟨g,0,none⟩) ps.length cap).ownBlock.toList) w (w2.setCell ⟨d,6,none⟩ (.slice (some ⟨g,0,none⟩) (ps.length -1) cap)):=by
  have t1:Tn (d::(Value.slice (some ⟨g,0,none⟩) ps.length cap).ownBlock.toList) w1 (w2.setCell ⟨d,6,none⟩ (.slice (some ⟨g,0,none⟩) (ps.length -1) cap)):=
   ((tn_grown hg2).mono (by intro b hb;simp[Value.ownBlock] at hb ⊢;exact .inr hb)).trans ((tn1 w2 d 6 _).mono (by simp))
  refine⟨_,HD1.out.newP t1 (hbox2.set 6 _) ?_ (.inl rfl),(Tn.of HB1.out).trans t1⟩;rw[HE.out,List.length_eraseIdx,if_pos hil];exact own_set ho2 hne 6 _
 have HK:Hid _:=hK;clear hK ho2 hg2 hbox2 e6;go_wp2
 go_end0
 exact⟨rfl,HK.out⟩
end Go.Proofs.YthkmpihfhkmaoaaGreatDoor
namespace Go.Proofs.YthkmpihfhkmaoaaGreatDoor
open Go.ChangeShapes Go.WideShapes Go.ChangeAt Go.RowKit
def waitL (ls:List Ld) (n:Int):List Ld:=ls.filter (fun x=> !decide (x.til<=n))
set_option maxHeartbeats 1000000 in
theorem wait1_any (x:Ld) (b d:Nat) (n:Int) (w:World) (hc:w.cell? ⟨b,0,none⟩=some (.pointer (some ⟨d,0,none⟩))) (hn:w.cell? ⟨d,2,none⟩=some (.int .i64 n)):
 Calls Tryz.prog 179 #[.agg #[.int .i64 x.num,.string x.sum,.int .i64 x.til],.pointer (some ⟨b,0,none⟩)] w fun e w'=>e=.returned (.bool (decide (x.til<=n)))/\Below w.heap.size w w':=by
 obtain⟨W,hW⟩:∃W,W=w.alloc (.cells #[.int .i64 x.num,.string x.sum,.int .i64 x.til] 131):=⟨_,rfl⟩;have hB:Below w.heap.size w W:=by rw[hW];exact(Below.refl _ _).alloc (Nat.le_refl _) _
 have c0:W.cell? ⟨w.heap.size,2,none⟩=some (.int .i64 x.til):=by rw[hW];simp[go_sem]
 have c1:=(hB.cell (p:=⟨b,0,none⟩) (World.block_lt_of_cell? w _ hc)).trans hc;have c2:=(hB.cell (p:=⟨d,2,none⟩) (World.block_lt_of_cell? w _ hn)).trans hn;have hd:b<W.heap.size/\d<W.heap.size:=⟨World.block_lt_of_cell? W _ c1,World.block_lt_of_cell? W _ c2⟩;have HW:Hid _:=hW;clear hW hc hn;go_enter Tryz.func179,Tryz.ntmps179;go_upto_region 1 with fail;rw[←HW.out];clear HW
 have HB:Hid (Below w.heap.size w W):=hB;clear hB;cases hbb:decide (x.til<=n)
 all_goals
  have HBB:Hid _:=hbb;go_region_with fail
  all_goals
   clear c0 c1 c2;go_wp2;go_ret;exact⟨by rw[HBB.out];rfl,HB.out.drew⟩
def FirstAt (ls:List Ld) (n r:Int):Prop:=(r= -1/\∀x∈ls,n<x.til)∨∃(i:Nat) (x:Ld),r=i/\ls[i]?=some x/\x.til<=n/\∀j y,j<i->ls[j]?=some y->n<y.til
set_option maxHeartbeats 1000000 in
theorem indexWait_any (a:Option Addr) (cap b d:Nat) (n:Int) (ls:List Ld) (w:World) (hrow:LRow w w.heap.size a ls) (hl:ls.length<=1048576) (hc:w.cell? ⟨b,0,none⟩=some (.pointer (some ⟨d,0,none⟩))) (hn:w.cell? ⟨d,2,none⟩=some (.int .i64 n)):
 Calls Tryz.prog 205 #[.slice a ls.length cap,.func (.func 179) #[] #[.pointer (some ⟨b,0,none⟩)]] w fun e w'=>∃r:Int,e=.returned (.int .i64 r)/\FirstAt ls n r/\Below w.heap.size w w':=by
 have hbl:b<w.heap.size:=World.block_lt_of_cell? w _ hc;have hdl:d<w.heap.size:=World.block_lt_of_cell? w _ hn;go_enter Tryz.func205,Tryz.ntmps205;go_wp2
 go_loopw [8] (fun i wr=>∃k:Nat,k<=ls.length/\i=.int .i64 k/\Hid (∀j x,j<k->ls[j]?=some x->n<x.til)/\Below w.heap.size w wr) (fun i _=>ls.length -(intOf i).toNat)
 case atStart=>exact⟨0,Nat.zero_le _,rfl,(fun j x h=>by omega),Below.refl _ _⟩
 case round=>
  obtain⟨k,hk,rfl,hall,hbel⟩:=hrel;have hzr:=hbel.size;by_cases hlt:k<ls.length
  ·obtain⟨b',off,ha,hb,hc'⟩:=(hrow.below hbel).at hlt
   subst ha;have hg:Hid (ls[k]?=some ls[k]):=List.getElem?_eq_getElem hlt;obtain⟨c0,c1,c2⟩:=hc' k _ hg.out;have hcr:=(hbel.cell (p:=⟨b,0,none⟩) hbl).trans hc;have hnr:=(hbel.cell (p:=⟨d,2,none⟩) hdl).trans hn;clear hc' hrow;generalize ls[k]=x at *
   go_wp2_with fail;refine(wait1_any x b d n wr hcr hnr).mono ?_;rintro e w1 ⟨rfl,hb1⟩;have hB1:=hbel.trans (hb1.mono hzr);by_cases h:x.til<=n
   ·have hd:decide (x.til<=n)=true:=by simpa using h
    have HH:Hid (x.til<=n):=h;rw[hd];clear h hd;go_wp2;go_ret;exact⟨_,rfl,.inr ⟨k,x,rfl,hg.out,HH.out,hall.out⟩,hB1⟩
   ·have HA:Hid (∀j y,j<k+1->ls[j]?=some y->n<y.til):=by
     intro j y hj hy;rcases Nat.lt_or_ge j k with h'|h'
     ·exact hall.out j y h' hy
     ·obtain rfl:j=k:=by omega
      rw[hg.out] at hy;cases hy;exact Int.not_le.1 h
    have hd:decide (x.til<=n)=false:=by simpa using h
    rw[hd];clear h hd;go_wp2;exact⟨⟨k+1,by omega,by go_num,HA,hB1⟩,by simp[intOf];omega⟩
  ·go_wp2
   go_ret;refine⟨_,rfl,.inl ⟨rfl,fun x hx=> ?_⟩,hbel⟩;obtain⟨j,hj,rfl⟩:=List.getElem_of_mem hx;exact hall.out j _ (by omega) (List.getElem?_eq_getElem hj)
end Go.Proofs.YthkmpihfhkmaoaaGreatDoor
namespace Go.Proofs.YthkmpihfhkmaoaaGreatDoor
open Go.ChangeShapes Go.WideShapes Go.ChangeAt Go.RowKit
def refsN (ks:List Kd):Nat:=(ks.map (fun k=>k.refs.length)).sum
theorem refsN_snoc {ks:List Kd} {k:Nat} {x:Kd} (h:ks[k]?=some x):refsN (ks.take (k+1))=refsN (ks.take k)+x.refs.length:=by
 unfold refsN;rw[List.take_add_one,h];simp
theorem refsN_take (ks:List Kd) (k:Nat):refsN (ks.take k)<=refsN ks:=by
 have h:refsN ks=refsN (ks.take k)+refsN (ks.drop k):=by
  unfold refsN;rw[←List.sum_append,←List.map_append,List.take_append_drop]
 omega
theorem szThing_t (t:ByteArray) (a:Option Addr) (cap:Nat) (ss:List ByteArray) (left:Int) (w:World) (hrow:SRow w w.heap.size a ss)
 (ht:t.size<=maxLen) (hl:ss.length<=maxLen) (hs:∀s∈ss,s.size<=maxLen) (h1:0<=left) (h2:left<=1048576):
 Calls Tryz.prog 33 #[.agg #[.string t,.slice a ss.length cap],.int .i64 left] w fun e w'=>∃r:Int,e=.returned (.int .i64 r)/\Below w.heap.size w w'/\r<=left/\(0<=r->ss.length<=1048576/\r<=left -ss.length):=by
 by_cases hfit:(t.size:Int)+ss.length+bulk ss<=left
 ·refine(szThing_yes t a cap ss left w hrow h2 hfit).mono ?_
  rintro e w' ⟨rfl,hb⟩;exact⟨_,rfl,hb,by omega,fun _=>⟨by omega,by omega⟩⟩
 ·refine(szThing_no t a cap ss left w hrow ht hl hs h1 h2 (by omega)).mono ?_
  rintro e w' ⟨rfl,hb⟩;exact⟨_,rfl,hb,by omega,fun h=>by omega⟩
set_option maxHeartbeats 400000 in
theorem szKept_t (k:Kd) (a:Option Addr) (cap:Nat) (left:Int) (w:World) (hrow:SRow w w.heap.size a k.refs)
 (h0:k.sum.size<=maxLen) (ht:k.text.size<=maxLen) (hl:k.refs.length<=maxLen) (hs:∀s∈k.refs,s.size<=maxLen) (h1:0<=left) (h2:left<=1048576):
 Calls Tryz.prog 76 #[.agg #[.string k.sum,.int .i64 k.born,.string k.text,.slice a k.refs.length cap],.int .i64 left] w fun e w'=>∃r:Int,e=.returned (.int .i64 r)/\Below w.heap.size w w'/\r<=left/\(0<=r->k.refs.length<=1048576/\r<=left -k.refs.length):=by
 have hb:Below w.heap.size w (w.alloc (.cells #[.string k.sum,.int .i64 k.born,.string k.text,.slice a k.refs.length cap] 122)):=(Below.refl _ _).alloc (Nat.le_refl _) _;have h0':=h0;unfold maxLen at h0';by_cases hn:left<k.sum.size
 ·go_enter Tryz.func76,Tryz.ntmps76
  go_wp2;go_ret;exact⟨_,rfl,hb,by omega,fun h=>by omega⟩
 ·go_enter Tryz.func76,Tryz.ntmps76
  go_wp2_with fail;refine(szThing_t k.text a cap k.refs _ _ (hrow.below' hb) ht hl hs (by omega) (by omega)).mono ?_;rintro e w1 ⟨r,rfl,hb1,hr,hf⟩;have hB:=hb.trans (hb1.mono (by simp));by_cases h3:r<0
  ·go_wp2
   go_ret;exact⟨_,rfl,hB,by omega,fun h=>by omega⟩
  ·go_wp2
   go_ret;exact⟨_,rfl,hB,by omega,fun h=>⟨(hf (by omega)).1,by have:=(hf (by omega)).2;omega⟩⟩
set_option maxHeartbeats 400000 in
theorem szKeptS_t (a:Option Addr) (cap:Nat) (ks:List Kd) (left:Int) (w:World) (hrow:KRow w w.heap.size a ks) (hm:KMem ks) (h1:0<=left) (h2:left<=1048576):
 Calls Tryz.prog 30 #[.slice a ks.length cap,.int .i64 left] w fun e w'=>∃r:Int,e=.returned (.int .i64 r)/\Below w.heap.size w w'/\r<=left/\(0<=r->ks.length<=1048576/\(∀k∈ks,k.refs.length<=1048576)/\(refsN ks:Int)<=1048576):=by
 have hml:=hm.len;unfold maxLen at hml;by_cases hn:left<ks.length
 ·go_enter Tryz.func30,Tryz.ntmps30
  go_wp2;go_ret;exact⟨_,rfl,Below.refl _ _,by omega,fun h=>by omega⟩
 ·go_enter Tryz.func30,Tryz.ntmps30
  go_wp2
  go_loopw [1,5] (fun l i wr=>∃(k:Nat) (L:Int),k<=ks.length/\i=.int .i64 k/\l=.int .i64 L/\0<=L/\L<=left -refsN (ks.take k)/\Below w.heap.size w wr/\Hid (∀j,j<k->∀x,ks[j]?=some x->x.refs.length<=1048576)) (fun _ i _=>ks.length -(intOf i).toNat)
  case atStart=>exact⟨0,_,Nat.zero_le _,rfl,rfl,by omega,by simp[refsN];omega,Below.refl _ _,fun j h=>by omega⟩
  case round=>
   obtain⟨k,L,hk,rfl,rfl,hL0,hL,hbel,hall⟩:=hrel;by_cases hlt:k<ks.length
   ·obtain⟨b,off,ha,hb,hc⟩:=hrow.at hlt
    subst ha;have hg:ks[k]?=some ks[k]:=List.getElem?_eq_getElem hlt;have hmem:=List.getElem_mem hlt;obtain⟨c0,c1,c2,ra,rc,c3,hrr⟩:=(hc k _ hg).below hbel hb;have m0:=hm.sum _ hmem;have m1:=hm.text _ hmem;have m2:=hm.refs _ hmem;have m3:=hm.ref _ hmem;have HG:Hid _:=hg;have hrn:refsN (ks.take (k+1))=refsN (ks.take k)+ks[k].refs.length:=refsN_snoc hg;clear hc hrow hm hmem hg
    generalize ks[k]=x at *
    have hcon:=szKept_t x ra rc L wr (hrr.mono hbel.size) m0 m1 m2 m3 hL0 (by omega);have HC:Hid _:=hcon;clear hcon m3 hrr;go_wp2_with fail;refine Calls.mono HC.out ?_;rintro e w1 ⟨r,rfl,hb1,hr,hf⟩;have hB:=hbel.trans (hb1.mono hbel.size);by_cases h3:r<0
    ·go_wp2
     go_ret;exact⟨_,rfl,hB,by omega,fun h=>by omega⟩
    ·have HA:Hid (∀j,j<k+1->∀x,ks[j]?=some x->x.refs.length<=1048576):=by
      intro j hj y hy;rcases Nat.lt_or_ge j k with h'|h'
      ·exact hall j h' y hy
      ·obtain rfl:j=k:=by omega
       rw[HG.out] at hy;cases hy;exact(hf (by omega)).1
     have hr2:=(hf (by omega)).2;clear hf hall;go_wp2;exact⟨⟨k+1,_,by omega,by go_num,rfl,by omega,by omega,hB,HA⟩,by simp[intOf];omega⟩
   ·go_wp2
    go_ret;refine⟨_,rfl,hbel,by omega,fun _=>⟨by omega,fun x hx=> ?_,by rw[List.take_of_length_le (by omega)] at hL;omega⟩⟩;obtain⟨j,hj,rfl⟩:=List.getElem_of_mem hx;exact hall j (by omega) _ (List.getElem?_eq_getElem hj)
set_option maxHeartbeats 400000 in
theorem szState_t (wd now given births:Int) (a p l:Option Addr) (ac pc lc:Nat) (ks:List Kd) (ps:List Pd) (ls:List Ld) (left:Int) (w:World) (hrow:SRows w w.heap.size a p l ks ps ls)
 (hk:KMem ks) (hp:PMem ps) (hl:LMem ls) (h1:0<=left) (h2:left<=1048576):
 Calls Tryz.prog 6 #[.agg #[.int .i64 wd,.int .i64 now,.int .i64 given,.int .i64 births,.slice a ks.length ac,.slice p ps.length pc,.slice l ls.length lc],.int .i64 left] w fun e w'=>∃r:Int,e=.returned (.int .i64 r)/\Below w.heap.size w w'/\r<=left/\(0<=r->SFit ks ps ls/\refsN ks<=1048576):=by
 have hb:Below w.heap.size w (w.alloc (.cells #[.int .i64 wd,.int .i64 now,.int .i64 given,.int .i64 births,.slice a ks.length ac,.slice p ps.length pc,.slice l ls.length lc] 26)):=(Below.refl _ _).alloc (Nat.le_refl _) _;have hx:=SBox.new w wd now given births (.slice a ks.length ac) (.slice p ps.length pc) (.slice l ls.length lc) 26;go_enter Tryz.func6,Tryz.ntmps6;go_wp2_with fail
 refine(szKeptS_t a ac ks _ _ (hrow.below' hb).k hk (by omega) (by omega)).mono ?_;rintro e w1 ⟨r,rfl,hb1,hr,hf1⟩;have hB:=hb.trans (hb1.mono (by simp));obtain⟨_,_,_,_,_,x5,x6,x7⟩:=hx.below hb1;have hz:=hb1.size;clear hb1;by_cases h3:r<0
 ·go_wp2
  go_ret;exact⟨_,rfl,hB,by omega,fun h=>by omega⟩
 ·go_wp2_with fail
  refine(szPinS_any p pc ps _ _ (hrow.below' hB).p hp (by omega) (by omega)).mono ?_;rintro e w2 ⟨r2,rfl,hb2,hr2,hf2⟩;have hB2:=hB.trans (hb2.mono hB.size);replace x6:=(hb2.cell (p:=⟨w.heap.size,6,none⟩) x7).trans x6;have hz2:=hb2.size;clear hb2 x5;by_cases h4:r2<0
  ·go_wp2
   go_ret;exact⟨_,rfl,hB2,by omega,fun h=>by omega⟩
  ·go_wp2_with fail
   refine(szLeaseS_any l lc ls _ _ (hrow.below' hB2).l hl (by omega) (by omega)).mono ?_;rintro e w3 ⟨r3,rfl,hb3,hr3,hf3⟩;have hB3:=hB2.trans (hb3.mono hB2.size);by_cases h5:r3<0
   ·go_wp2
    go_ret;exact⟨_,rfl,hB3,by omega,fun h=>by omega⟩
   ·go_wp2
    go_ret;exact⟨_,rfl,hB3,by omega,fun _=>⟨⟨(hf1 (by omega)).1,(hf1 (by omega)).2.1,hf2 (by omega),hf3 (by omega)⟩,by have:=(hf1 (by omega)).2.2;omega⟩⟩
end Go.Proofs.YthkmpihfhkmaoaaGreatDoor
namespace Go.Proofs.YthkmpihfhkmaoaaGreatDoor
open Go.ChangeShapes Go.WideShapes Go.ChangeAt Go.RowKit
def Alive (w w':World):Prop:=∀b o,(w.cell? ⟨b,o,none⟩).isSome=true->(w'.cell? ⟨b,o,none⟩).isSome=true/\(w.frozen? ⟨b,o,none⟩=false->w'.frozen? ⟨b,o,none⟩=false)
theorem Alive.refl (w:World):Alive w w:=fun _ _ h=>⟨h,fun h=>h⟩
theorem Alive.trans {a b c:World} (h1:Alive a b) (h2:Alive b c):Alive a c:=fun p o h=>⟨(h2 p o (h1 p o h).1).1,fun hf=>(h2 p o (h1 p o h).1).2 ((h1 p o h).2 hf)⟩
theorem Alive.of_below {w w':World} (h:Below w.heap.size w w'):Alive w w':=fun b o hs=>by
 obtain⟨v,hv⟩:=Option.isSome_iff_exists.1 hs;have hb:b<w.heap.size:=World.block_lt_of_cell? w ⟨b,o,none⟩ hv;rw[h.cell (p:=⟨b,o,none⟩) hb,h.frozen (p:=⟨b,o,none⟩) hb];exact⟨hs,fun h=>h⟩
theorem Alive.setCell (w:World) (g p:Nat) (v:Value):Alive w (w.setCell ⟨g,p,none⟩ v):=fun b o hs=>by
 refine⟨?_,fun h=>by simpa [go_sem] using h⟩;by_cases e:(⟨b,o,none⟩:Addr)=⟨g,p,none⟩
 ·rw[←e,World.cell?_setCell_same' _ _ _ hs]
  rfl
 ·rw[World.cell?_setCell_other _ _ _ _ (fun e'=>e e'.symm)]
  exact hs
def Wr (w:World) (q n:Nat):Prop:=∀j,j<n->(w.cell? ⟨q,j,none⟩).isSome=true/\w.frozen? ⟨q,j,none⟩=false
theorem Wr.alive {w w':World} {q n:Nat} (h:Wr w q n) (ha:Alive w w'):Wr w' q n:=fun j hj=>⟨(ha q j (h j hj).1).1,(ha q j (h j hj).1).2 (h j hj).2⟩
theorem Wr.at {w:World} {q n j:Nat} (h:Wr w q n) (hj:j<n):∃v,w.cell? ⟨q,j,none⟩=some v:=Option.isSome_iff_exists.1 (h j hj).1
theorem Wr.own {w:World} {base g n cap size:Nat} {e:TypeId} {xs:List Value} (h:w.ownsRow base e size (.slice (some ⟨g,0,none⟩) n cap) n xs):Wr w g (n *size):=fun j hj=>by
 have hl:=h.1;refine⟨?_,h.frozenAt j⟩;rw[h.cellAt j (by omega),List.getElem?_eq_getElem (by omega)];rfl
theorem grown_set (w:World) (g p:Nat) (v:Value):w.grownBy (w.setCell ⟨g,p,none⟩ v) (some g):=
 ⟨rfl,rfl,rfl,by simp,fun i _ hi=>Below.heap_setCell _ _ _ _ (fun e=>hi (by rw[e]))⟩
set_option maxHeartbeats 400000 in
theorem markS_wr (q n cap k:Nat) (w:World) (h:Wr w q n) (hk:1<=k) (hkn:k+n<=100000000):
 Calls Tryz.prog 74 #[.slice (some ⟨q,0,none⟩) n cap,.int .i64 k] w fun e w'=>e=.returned (.int .i64 (k+n))/\w.grownBy w' (some q)/\Alive w w':=by
 go_enter Tryz.func74,Tryz.ntmps74;go_wp2
 go_loopw [1,5] (fun v i wr=>∃(j:Nat),j<=n/\i=.int .i64 j/\v=.int .i64 (k+j)/\Hid (Wr wr q n)/\w.grownBy wr (some q)/\Alive w wr) (fun _ i _=>n -(intOf i).toNat)
 case atStart=>exact⟨0,Nat.zero_le _,rfl,by simp,h,grown_refl _ _,Alive.refl _⟩
 case round=>
  clear h;obtain⟨j,hj,rfl,rfl,HW,hgrow,hal⟩:=hrel;by_cases hlt:j<n
  ·have hcall:=markText_any (k+j) wr (by omega) (by omega)
   rw[show((k+j:Nat):Int)=(k:Int)+j from by omega] at hcall;have hlt':(j:Int)<n:=by omega
   go_wp2_with fail;refine hcall.mono ?_;rintro e w2 ⟨rfl,hb2⟩;have hw2:=Wr.alive HW.out (Alive.of_below hb2);obtain⟨v,hcc⟩:=hw2.at hlt;have hff:=(hw2 j hlt).2
   have HH:Hid _:=And.intro (hw2.alive (Alive.setCell w2 q j (.string (mkT (k+j))))) (And.intro (grown_trans hgrow (grown_trans (grown_below _ hb2) (grown_set w2 q j (.string (mkT (k+j)))))) (hal.trans ((Alive.of_below hb2).trans (Alive.setCell w2 q j (.string (mkT (k+j)))))));clear hgrow hcall hal HW hw2 hb2;go_wp2
   exact⟨⟨j+1,by omega,by go_num,by go_num,HH.out.1,HH.out.2.1,HH.out.2.2⟩,by simp[intOf];omega⟩
  ·obtain rfl:j=n:=by omega
   go_wp2;go_ret;exact⟨rfl,hgrow,hal⟩
theorem markText_at (K:Nat) (z:Int) (w:World) (hz:z=K) (hk:1<=K) (hk2:K<=1000000000):
 Calls Tryz.prog 117 #[.int .i64 z] w fun e w'=>e=.returned (.string (mkT K))/\Below w.heap.size w w':=by
 subst hz;exact markText_any K w hk hk2
def MSt (w wr:World) (g n:Nat):Prop:=Wr wr g n/\w.grownBy wr (some g)/\Alive w wr
theorem MSt.new {w:World} {g n:Nat} (h:Wr w g n):MSt w w g n:=⟨h,grown_refl _ _,Alive.refl _⟩
theorem MSt.below {w wr w2:World} {g n:Nat} (h:MSt w wr g n) (hb:Below wr.heap.size wr w2):MSt w w2 g n:=
 ⟨h.1.alive (Alive.of_below hb),grown_trans h.2.1 (grown_below _ hb),h.2.2.trans (Alive.of_below hb)⟩
theorem MSt.set {w wr:World} {g n:Nat} (h:MSt w wr g n) (o:Nat) (v:Value):MSt w (wr.setCell ⟨g,o,none⟩ v) g n:=
 ⟨h.1.alive (Alive.setCell _ _ _ _),grown_trans h.2.1 (grown_set _ _ _ _),h.2.2.trans (Alive.setCell _ _ _ _)⟩
set_option maxHeartbeats 2000000 in
theorem markPinS_any (g n cap k:Nat) (w:World) (h:Wr w g (n *2)) (hk:1<=k) (hkn:k+n *2<=100000000):
 Calls Tryz.prog 51 #[.slice (some ⟨g,0,none⟩) n cap,.int .i64 k] w fun e w'=>(∃K:Nat,e=.returned (.int .i64 K)/\k<=K/\K<=k+n *2)/\w.grownBy w' (some g)/\Alive w w':=by
 go_enter Tryz.func51,Tryz.ntmps51;go_wp2
 go_loopw [1,5] (fun v i wr=>∃(j K:Nat),j<=n/\i=.int .i64 j/\v=.int .i64 K/\k<=K/\K<=k+j *2/\Hid (MSt w wr g (n *2))) (fun _ i _=>n -(intOf i).toNat)
 case atStart=>exact⟨0,k,Nat.zero_le _,rfl,rfl,Nat.le_refl _,by omega,MSt.new h⟩
 case round=>
  clear h;obtain⟨j,K,hj,rfl,rfl,hK1,hK2,HM⟩:=hrel;by_cases hlt:j<n
  ·have hlt':(j:Int)<n:=by omega
   have hjn:j *2+2<=n *2:=by omega
   go_wp2_with fail;refine(markText_at K _ _ rfl (by omega) (by omega)).mono ?_;rintro e w2 ⟨rfl,hb2⟩;have h2:=MSt.below HM.out hb2;obtain⟨v2,c2⟩:=h2.1.at (j:=j *2) (by omega);have f2:=(h2.1 (j *2) (by omega)).2;have HM:Hid _:=h2.set (j *2) (.string (mkT K));clear h2 hb2;go_wp2_with fail;refine(markText_at (K+1) _ _ (by omega) (by omega) (by omega)).mono ?_;rintro e w3 ⟨rfl,hb3⟩
   have h3:=MSt.below HM.out hb3;obtain⟨v3,c3⟩:=h3.1.at (j:=j *2+1) (by omega);have f3:=(h3.1 (j *2+1) (by omega)).2;have HM:Hid _:=h3.set (j *2+1) (.string (mkT (K+1)));clear h3 hb3 c2 f2;go_wp2;exact⟨⟨j+1,K+1+1,by omega,by go_num,by go_num,by omega,by omega,HM⟩,by simp[intOf];omega⟩
  ·obtain rfl:j=n:=by omega
   go_wp2;go_ret;exact⟨⟨K,rfl,hK1,hK2⟩,HM.out.2.1,HM.out.2.2⟩
set_option maxHeartbeats 2000000 in
theorem markLeaseS_any (g n cap k:Nat) (w:World) (h:Wr w g (n *3)) (hk:1<=k) (hkn:k+n *3<=100000000):
 Calls Tryz.prog 52 #[.slice (some ⟨g,0,none⟩) n cap,.int .i64 k] w fun e w'=>(∃K:Nat,e=.returned (.int .i64 K)/\k<=K/\K<=k+n *3)/\w.grownBy w' (some g)/\Alive w w':=by
 go_enter Tryz.func52,Tryz.ntmps52;go_wp2
 go_loopw [1,5] (fun v i wr=>∃(j K:Nat),j<=n/\i=.int .i64 j/\v=.int .i64 K/\k<=K/\K<=k+j *3/\Hid (MSt w wr g (n *3))) (fun _ i _=>n -(intOf i).toNat)
 case atStart=>exact⟨0,k,Nat.zero_le _,rfl,rfl,Nat.le_refl _,by omega,MSt.new h⟩
 case round=>
  clear h;obtain⟨j,K,hj,rfl,rfl,hK1,hK2,HM⟩:=hrel;by_cases hlt:j<n
  ·have hlt':(j:Int)<n:=by omega
   have hjn:j *3+3<=n *3:=by omega
   obtain⟨v1,c1⟩:=HM.out.1.at (j:=j *3) (by omega);have f1:=(HM.out.1 (j *3) (by omega)).2;have HM:Hid _:=MSt.set HM.out (j *3) (.int .i64 K);go_wp2_with fail;refine(markText_at (K+1) _ _ (by omega) (by omega) (by omega)).mono ?_;rintro e w3 ⟨rfl,hb3⟩;have h3:=MSt.below HM.out hb3;obtain⟨v3,c3⟩:=h3.1.at (j:=j *3+1) (by omega);have f3:=(h3.1 (j *3+1) (by omega)).2
   have h4:=h3.set (j *3+1) (.string (mkT (K+1)));obtain⟨v4,c4⟩:=h3.1.at (j:=j *3+2) (by omega);have f4:=(h3.1 (j *3+2) (by omega)).2;have HM:Hid _:=h4.set (j *3+2) (.int .i64 ((K:Int)+1+1));clear h3 h4 hb3 c1 f1;go_wp2;exact⟨⟨j+1,K+1+1+1,by omega,by go_num,by go_num,by omega,by omega,HM⟩,by simp[intOf];omega⟩
  ·obtain rfl:j=n:=by omega
   go_wp2;go_ret;exact⟨⟨K,rfl,hK1,hK2⟩,HM.out.2.1,HM.out.2.2⟩
structure KSt (w wr:World) (lo N g:Nat) (ks:List Kd):Prop where
 row:Wr wr g (ks.length *4)
 bel:Below lo w wr
 al:Alive w wr
 far:∀k,N<=k->k<w.heap.size->wr.heap[k]?=w.heap[k]?
 refs:∀i x,ks[i]?=some x->∃q c,wr.cell? ⟨g,i *4+3,none⟩=some (.slice (some ⟨q,0,none⟩) x.refs.length c)/\g<q/\q<N/\Wr wr q x.refs.length
theorem KSt.new {w0 w:World} {lo g:Nat} {ks:List Kd} (h:KOwn w0 lo g ks) (hb:Below w0.heap.size w0 w):KSt w w lo w0.heap.size g ks:=by
 obtain⟨xs,ho,hk⟩:=h;have hg:=(ho.lt g rfl).2;refine⟨(Wr.own ho).alive (Alive.of_below hb),Below.refl _ _,Alive.refl _,fun _ _ _=>rfl,fun i x hx=> ?_⟩;have hi:=(List.getElem?_eq_some_iff.1 hx).1;obtain⟨_,_,_,q,h3,h4⟩:=hk i x hx;refine⟨q,_,(hb.cell (p:=⟨g,i *4+3,none⟩) hg).trans ((ho.cellAt _ (by omega)).trans h3),(World.ownsRow.lt h4 q rfl).1,(World.ownsRow.lt h4 q rfl).2,?_⟩
 have:=(Wr.own h4).alive (Alive.of_below hb);rwa[Nat.mul_one] at this
theorem KSt.below {w wr w2:World} {lo N g:Nat} {ks:List Kd} (h:KSt w wr lo N g ks) (hlo:lo<=wr.heap.size) (hb:Below wr.heap.size wr w2):KSt w w2 lo N g ks:=
 ⟨h.row.alive (Alive.of_below hb),h.bel.trans (hb.mono hlo),h.al.trans (Alive.of_below hb),fun k h1 h2=>(hb.block k (Nat.lt_of_lt_of_le h2 h.bel.size)).trans (h.far k h1 h2),fun i x hx=>by
  obtain⟨q,c,h1,h2,h2',h3⟩:=h.refs i x hx;exact⟨q,c,(hb.cell (p:=⟨g,i *4+3,none⟩) (World.block_lt_of_cell? wr ⟨g,i *4+3,none⟩ h1)).trans h1,h2,h2',h3.alive (Alive.of_below hb)⟩⟩
theorem KSt.set {w wr:World} {lo N g:Nat} {ks:List Kd} (h:KSt w wr lo N g ks) (hlo:lo<=g) (hN:g<N) (j c:Nat) (hc:c<=2) (v:Value):KSt w (wr.setCell ⟨g,j *4+c,none⟩ v) lo N g ks:=
 ⟨h.row.alive (Alive.setCell _ _ _ _),h.bel.setCell (p:=⟨g,j *4+c,none⟩) (by simpa using hlo) _,h.al.trans (Alive.setCell _ _ _ _),fun k h1 h2=>((grown_set wr g (j *4+c) v).block k (Nat.lt_of_lt_of_le h2 h.bel.size) (by intro e;cases e;omega)).trans (h.far k h1 h2),fun i x hx=>by
  obtain⟨q,d,h1,h2,h2',h3⟩:=h.refs i x hx;refine⟨q,d,?_,h2,h2',h3.alive (Alive.setCell _ _ _ _)⟩;rw[World.cell?_setCell_other _ _ _ _ (by intro e;injection e;omega)];exact h1⟩
theorem KSt.grown {w wr w2:World} {lo N g q:Nat} {ks:List Kd} (h:KSt w wr lo N g ks) (hlo:lo<=wr.heap.size) (hg:wr.grownBy w2 (some q)) (ha:Alive wr w2) (hq:g<q) (hqN:q<N) (hl:lo<=g):KSt w w2 lo N g ks:=
 ⟨h.row.alive ha,h.bel.grown hg hlo (fun k hk=>by cases hk;omega),h.al.trans ha,fun k h1 h2=>(hg.block k (Nat.lt_of_lt_of_le h2 h.bel.size) (by intro e;cases e;omega)).trans (h.far k h1 h2),fun i x hx=>by
  obtain⟨q',d,h1,h2,h2',h3⟩:=h.refs i x hx;exact⟨q',d,hg.cell h1 (by simp;omega),h2,h2',h3.alive ha⟩⟩
set_option maxHeartbeats 4000000 in
theorem markKeptS_any (lo g cap k:Nat) (ks:List Kd) (w0 w:World) (h:KOwn w0 lo g ks) (hb0:Below w0.heap.size w0 w) (hlo:lo<=g) (hlw:lo<=w.heap.size) (hk:1<=k) (hkn:k+ks.length *3+refsN ks<=100000000):
 Calls Tryz.prog 50 #[.slice (some ⟨g,0,none⟩) ks.length cap,.int .i64 k] w fun e w'=>(∃K:Nat,e=.returned (.int .i64 K)/\k<=K/\K<=k+ks.length *3+refsN ks)/\Below lo w w'/\Alive w w'/\∀k,w0.heap.size<=k->k<w.heap.size->w'.heap[k]?=w.heap[k]?:=by
 have h0:=KSt.new h hb0;have hN:g<w0.heap.size:=by obtain⟨_,ho,_⟩:=h;exact(ho.lt g rfl).2
 generalize w0.heap.size=N at *
 clear h hb0;go_enter Tryz.func50,Tryz.ntmps50;go_wp2
 go_loopw [1,5] (fun v i wr=>∃(j K:Nat),j<=ks.length/\i=.int .i64 j/\v=.int .i64 K/\k<=K/\K<=k+j *3+refsN (ks.take j)/\Hid (KSt w wr lo N g ks)) (fun _ i _=>ks.length -(intOf i).toNat)
 case atStart=>exact⟨0,k,Nat.zero_le _,rfl,rfl,Nat.le_refl _,by omega,h0⟩
 case round=>
  clear h0;obtain⟨j,K,hj,rfl,rfl,hK1,hK2,HM⟩:=hrel;have hrt:=refsN_take ks j;by_cases hlt:j<ks.length
  ·have hlt':(j:Int)<ks.length:=by omega
   have hjn:j *4+4<=ks.length *4:=by omega
   have hg:ks[j]?=some ks[j]:=List.getElem?_eq_getElem hlt;have hrn:=refsN_snoc hg;have hrt2:=refsN_take ks (j+1);generalize ks[j]=x at *
   have HG:Hid _:=hg;clear hg;have hs1:lo<=wr.heap.size:=Nat.le_trans hlw HM.out.bel.size;go_wp2_with fail;refine(markText_at K _ _ rfl (by omega) (by omega)).mono ?_;rintro e w2 ⟨rfl,hb2⟩;have h2:=KSt.below HM.out hs1 hb2;have hs2:lo<=w2.heap.size:=Nat.le_trans hs1 hb2.size;obtain⟨v2,c2⟩:=h2.row.at (j:=j *4) (by omega);have f2:=(h2.row (j *4) (by omega)).2
   obtain⟨v3,c3⟩:=h2.row.at (j:=j *4+1) (by omega);have f3:=(h2.row (j *4+1) (by omega)).2;have h3:=(h2.set hlo hN j 0 (by omega) (.string (mkT K))).set hlo hN j 1 (by omega) (.int .i64 ((K:Int)+1));rw[Nat.add_zero] at h3;have HM:Hid _:=h3;clear h2 h3 hb2;go_wp2_with fail;refine(markText_at (K+1+1) _ _ (by omega) (by omega) (by omega)).mono ?_;rintro e w4 ⟨rfl,hb4⟩
   have h4:=KSt.below HM.out (by simpa using hs2) hb4;have hs4:lo<=w4.heap.size:=Nat.le_trans hs2 (by have:=hb4.size;simpa using this);obtain⟨v4,c4⟩:=h4.row.at (j:=j *4+2) (by omega);have f4:=(h4.row (j *4+2) (by omega)).2;obtain⟨q,qc,c5,hq,hqN,hwq⟩:=h4.refs j x HG.out;have HM:Hid _:=h4.set hlo hN j 2 (by omega) (.string (mkT (K+1+1)))
   have HQ:Hid _:=hwq.alive (Alive.setCell w4 g (j *4+2) (.string (mkT (K+1+1))));clear h4 hb4 c2 f2 c3 f3 hwq;have hcall:=markS_wr q x.refs.length qc (K+1+1+1) (w4.setCell ⟨g,j *4+2,none⟩ (.string (mkT (K+1+1)))) HQ.out (by omega) (by omega);rw[show((K+1+1+1:Nat):Int)=(K:Int)+1+1+1 from by omega] at hcall;have HC:Hid _:=hcall;clear hcall HQ;go_wp2_with fail;refine Calls.mono HC.out ?_
   rintro e w5 ⟨rfl,hg5,ha5⟩;have HM:Hid _:=KSt.grown HM.out (by simpa using hs4) hg5 ha5 hq hqN hlo;clear hg5 ha5 HC c4 f4 c5;go_wp2;exact⟨⟨j+1,K+1+1+1+x.refs.length,by omega,by go_num,by go_num,by omega,by omega,HM⟩,by simp[intOf];omega⟩
  ·obtain rfl:j=ks.length:=by omega
   rw[List.take_of_length_le (Nat.le_refl _)] at hK2;go_wp2;go_ret;exact⟨⟨K,rfl,hK1,hK2⟩,HM.out.bel,HM.out.al,HM.out.far⟩
set_option maxHeartbeats 2000000 in
theorem markState_any (wd now given births:Int) (lo g p l k:Nat) (ks:List Kd) (ps:List Pd) (ls:List Ld) (w0 w:World) (h:SOwn w0 lo g p l ks ps ls) (hb0:Below w0.heap.size w0 w) (hf:SFit ks ps ls) (hrn:refsN ks<=1048576) (hk:1<=k) (hk2:k<=1000):
 Calls Tryz.prog 15 #[.agg #[.int .i64 wd,.int .i64 now,.int .i64 given,.int .i64 births,.slice (some ⟨g,0,none⟩) ks.length ks.length,.slice (some ⟨p,0,none⟩) ps.length ps.length,.slice (some ⟨l,0,none⟩) ls.length ls.length],.int .i64 k] w fun e w'=>
  (∃K:Nat,e=.returned (.int .i64 K)/\k<=K/\K<=20000000)/\Below lo w w'/\Alive w w'/\∀k,w0.heap.size<=k->k<w.heap.size->w'.heap[k]?=w.heap[k]?:=by
 have hk1:=hf.k;have hp1:=hf.p;have hl1:=hf.l;have hb:Below w.heap.size w (w.alloc (.cells #[.int .i64 wd,.int .i64 now,.int .i64 given,.int .i64 births,.slice (some ⟨g,0,none⟩) ks.length ks.length,.slice (some ⟨p,0,none⟩) ps.length ps.length,.slice (some ⟨l,0,none⟩) ls.length ls.length] 38)):=(Below.refl _ _).alloc (Nat.le_refl _) _
 have hx:=SBox.new w wd now given births (.slice (some ⟨g,0,none⟩) ks.length ks.length) (.slice (some ⟨p,0,none⟩) ps.length ps.length) (.slice (some ⟨l,0,none⟩) ls.length ls.length) 38;obtain⟨xp,hop,_⟩:=h.p;obtain⟨xl,hol,_⟩:=h.l;obtain⟨xk,hok,hkc⟩:=h.k;have lg:=hok.lt g rfl;have lp:=hop.lt p rfl;have ll:=hol.lt l rfl;have hbb:=hb0.trans (hb.mono hb0.size)
 have wp0:=(Wr.own hop).alive (Alive.of_below hbb);have wl0:=(Wr.own hol).alive (Alive.of_below hbb);have hz0:=hb0.size;have hko:=h.k;clear hop hol hok hkc h;go_enter Tryz.func15,Tryz.ntmps15;go_wp2_with fail;refine(markKeptS_any lo g ks.length k ks w0 _ hko hbb lg.1 (by simp;omega) hk (by omega)).mono ?_;rintro e w1 ⟨⟨K1,rfl,hK1,hK1'⟩,hb1,ha1,hf1⟩;obtain⟨y0,y1,y2,y3,y4,y5,y6,y7⟩:=hx
 have hz1:=hb1.size;simp at hz1;have c5:=(World.cell?_of_block (a:=⟨w.heap.size,5,none⟩) (hf1 w.heap.size hz0 (by simp))).trans y5;have c6:=(World.cell?_of_block (a:=⟨w.heap.size,6,none⟩) (hf1 w.heap.size hz0 (by simp))).trans y6;have wp1:=wp0.alive ha1;have wl1:=wl0.alive ha1
 have HB1:Hid (Below lo w w1/\Alive w w1/\∀k,w0.heap.size<=k->k<w.heap.size->w1.heap[k]?=w.heap[k]?):=⟨(hb.mono (by omega)).trans hb1,(Alive.of_below hb).trans ha1,fun j h1 h2=>(hf1 j h1 (by simp;omega)).trans (hb.block j h2)⟩;have HP:Hid _:=And.intro wp1 wl1;clear y0 y1 y2 y3 y4 y5 y6 y7 wp0 wl0 hb1 ha1 hf1 hb hbb hko wp1 wl1;go_wp2_with fail
 refine(markPinS_any p ps.length ps.length K1 w1 HP.out.1 (by omega) (by omega)).mono ?_;rintro e w2 ⟨⟨K2,rfl,hK2,hK2'⟩,hg2,ha2⟩;have hz2:=hg2.size;have c7:=hg2.cell c6 (by simp;omega)
 have HB2:Hid (Below lo w w2/\Alive w w2/\∀k,w0.heap.size<=k->k<w.heap.size->w2.heap[k]?=w.heap[k]?):=⟨HB1.out.1.grown hg2 (by omega) (fun j hj=>by cases hj;omega),HB1.out.2.1.trans ha2,fun j h1 h2=>(hg2.block j (by omega) (by intro e;cases e;omega)).trans (HB1.out.2.2 j h1 h2)⟩;have HL:Hid _:=HP.out.2.alive ha2;clear hg2 ha2 HB1 HP c5 c6;go_wp2_with fail
 refine(markLeaseS_any l ls.length ls.length K2 w2 HL.out (by omega) (by omega)).mono ?_;rintro e w3 ⟨⟨K3,rfl,hK3,hK3'⟩,hg3,ha3⟩;have hz3:=hg3.size
 have HB3:Hid (Below lo w w3/\Alive w w3/\∀k,w0.heap.size<=k->k<w.heap.size->w3.heap[k]?=w.heap[k]?):=⟨HB2.out.1.grown hg3 (by omega) (fun j hj=>by cases hj;omega),HB2.out.2.1.trans ha3,fun j h1 h2=>(hg3.block j (by omega) (by intro e;cases e;omega)).trans (HB2.out.2.2 j h1 h2)⟩;clear hg3 ha3 HB2 HL c7;go_wp2;go_ret;exact⟨⟨K3,rfl,by omega,by omega⟩,HB3.out.1,HB3.out.2.1,HB3.out.2.2⟩
end Go.Proofs.YthkmpihfhkmaoaaGreatDoor
