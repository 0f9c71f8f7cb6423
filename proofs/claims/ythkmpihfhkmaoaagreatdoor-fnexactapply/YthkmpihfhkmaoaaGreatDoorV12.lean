import Derived.Test.YthkmpihfhkmaoaaGreatDoorV09
import Derived.Test.YthkmpihfhkmaoaaGreatDoorV11
import Derived.Test.YthkmpihfhkmaoaaGreatDoorV05
namespace Go.Proofs.YthkmpihfhkmaoaaGreatDoor
open Go.ChangeShapes Go.WideShapes Go.ChangeAt Go.RowKit
def markX (k:Nat) (x:Kd):Kd:=⟨mkT k,(k:Int)+1,mkT (k+1+1),marks (k+1+1+1) x.refs.length⟩
def markK:Nat->List Kd->List Kd
 |_,[]=>[]
 |k,x::xs=>markX k x::markK (k+3+x.refs.length) xs
theorem markK_length:∀(k:Nat) (xs:List Kd),(markK k xs).length=xs.length
 |_,[]=>rfl
 |k,x::xs=>by simp[markK,markK_length _ xs]
theorem refsN_cons (x:Kd) (xs:List Kd):refsN (x::xs)=x.refs.length+refsN xs:=by simp[refsN]
theorem markK_append:∀(k:Nat) (xs ys:List Kd),markK k (xs++ys)=markK k xs++markK (k+xs.length *3+refsN xs) ys
 |k,[],ys=>by simp[markK,refsN]
 |k,x::xs,ys=>by
  simp only[List.cons_append,markK,markK_append _ xs ys];congr 3;rw[refsN_cons,List.length_cons];omega
theorem markK_step {k j:Nat} {ks:List Kd} {x:Kd} (hx:ks[j]?=some x):markK k (ks.take (j+1))++ks.drop (j+1)=(markK k (ks.take j)++ks.drop j).set j (markX (k+j *3+refsN (ks.take j)) x):=by
 obtain⟨hlt,rfl⟩:=List.getElem?_eq_some_iff.1 hx;have hl:(markK k (ks.take j)).length=j:=by rw[markK_length,List.length_take];omega
 have hl2:(ks.take j).length=j:=by rw[List.length_take];omega
 rw[List.take_succ_eq_append_getElem hlt,markK_append,hl2,List.set_append_right _ _ (by omega),hl,Nat.sub_self,List.drop_eq_getElem_cons hlt,List.set_cons_zero,List.append_assoc];rfl
structure KAns (w:World) (base:Nat) (T:Value) (rs:List Value) (ks:List Kd):Prop where
 len:rs.length=ks.length
 things:w.ownsRow base 114 4 T ks.length (rowC kC (ks.zip rs))
 refs:∀(i:Nat) (k:Kd) (r:Value),ks[i]?=some k->rs[i]?=some r->w.ownsRow base 9 1 r k.refs.length (k.refs.map Value.string)
 nd:(T.ownBlock.toList++rs.filterMap Value.ownBlock).Nodup
theorem nd_idx {f:Value->Option Nat}:∀{rs:List Value},(rs.filterMap f).Nodup->∀{i j:Nat} {a b:Value} {g:Nat},rs[i]?=some a->rs[j]?=some b->f a=some g->f b=some g->i=j
 |[],_,i,_,_,_,_,h,_,_,_=>by simp at h
 |r::rs,h,0,0,_,_,_,_,_,_,_=>rfl
 |r::rs,h,0,j+1,a,b,g,ha,hb,hfa,hfb=>by
  simp at ha hb;subst ha;rw[List.filterMap_cons_some hfa] at h;exact absurd (List.mem_filterMap.2 ⟨b,List.mem_of_getElem? hb,hfb⟩) (List.nodup_cons.1 h).1
 |r::rs,h,i+1,0,a,b,g,ha,hb,hfa,hfb=>by
  simp at ha hb;subst hb;rw[List.filterMap_cons_some hfb] at h;exact absurd (List.mem_filterMap.2 ⟨a,List.mem_of_getElem? ha,hfa⟩) (List.nodup_cons.1 h).1
 |r::rs,h,i+1,j+1,a,b,g,ha,hb,hfa,hfb=>by
  simp at ha hb;have:(rs.filterMap f).Nodup:=by
   cases hr:f r with
   |none=>rw[List.filterMap_cons_none hr] at h;exact h
   |some q=>rw[List.filterMap_cons_some hr] at h;exact(List.nodup_cons.1 h).2
  rw[nd_idx this ha hb hfa hfb]
theorem row_set3:∀{zs:List (Kd×Value)} {i:Nat} {x:Kd} {r:Value},zs[i]?=some (x,r)->∀y:Kd,(((rowC kC zs).set (i *4) (.string y.sum)).set (i *4+1) (.int .i64 y.born)).set (i *4+2) (.string y.text)=rowC kC (zs.set i (y,r))
 |[],i,_,_,h,_=>by simp at h
 |z::zs,0,x,r,h,y=>by
  simp at h;subst h;simp[rowC,kC]
 |z::zs,i+1,x,r,h,y=>by
  have h':zs[i]?=some (x,r):=by simpa using h
  have ih:=row_set3 h' y;have e:rowC kC (z::zs)=kC z++rowC kC zs:=by simp[rowC]
  have e2:rowC kC ((z::zs).set (i+1) (y,r))=kC z++rowC kC (zs.set i (y,r)):=by simp[rowC]
  rw[e,e2,←ih,show(i+1) *4=(kC z).length+i *4 by rw[kC_len4];omega];rw[List.set_append_right _ _ (by omega),Nat.add_sub_cancel_left,show(kC z).length+i *4+1=(kC z).length+(i *4+1) by omega,List.set_append_right _ _ (by omega),Nat.add_sub_cancel_left,show(kC z).length+i *4+2=(kC z).length+(i *4+2) by omega,List.set_append_right _ _ (by omega),Nat.add_sub_cancel_left]
theorem zip_set {ks:List Kd} {rs:List Value} {j:Nat} {y:Kd} {r:Value} (hr:rs[j]?=some r):(ks.set j y).zip rs=(ks.zip rs).set j (y,r):=by
 apply List.ext_getElem?;intro i;by_cases hij:i=j
 ·subst hij
  rcases Nat.lt_or_ge i ks.length with h|h
  ·have hr':=(List.getElem?_eq_some_iff.1 hr).1
   rw[(List.getElem?_zip_eq_some (z:=(y,r))).2 ⟨List.getElem?_set_self h,hr⟩,List.getElem?_set_self (by rw[List.length_zip];omega)]
  ·rw[List.getElem?_eq_none (by rw[List.length_zip,List.length_set];omega),List.getElem?_eq_none (by rw[List.length_set,List.length_zip];omega)]
 ·rw[List.getElem?_set_ne (fun e=>hij e.symm),List.zip_eq_zipWith,List.zip_eq_zipWith,List.getElem?_zipWith,List.getElem?_zipWith,List.getElem?_set_ne (fun e=>hij e.symm)]
set_option maxRecDepth 20000 in
set_option maxHeartbeats 4000000 in
theorem markKeptX (base g cap k:Nat) (rs:List Value) (ks:List Kd) (w:World) (h:KAns w base (.slice (some ⟨g,0,none⟩) ks.length cap) rs ks) (hk:1<=k) (hkn:k+ks.length *3+refsN ks<=100000000):
 Calls Tryz.prog 50 #[.slice (some ⟨g,0,none⟩) ks.length cap,.int .i64 k] w fun e w'=>e=.returned (.int .i64 (k+ks.length *3+refsN ks:Nat))/\KAns w' base (.slice (some ⟨g,0,none⟩) ks.length cap) rs (markK k ks)/\Tn (g::rs.filterMap Value.ownBlock) w w':=by
 have H0:Hid _:=h;clear h;go_enter Tryz.func50,Tryz.ntmps50;go_wp2
 go_loopw [1,5] (fun v i wr=>∃(j K:Nat),j<=ks.length/\i=.int .i64 j/\v=.int .i64 K/\Hid (K=k+j *3+refsN (ks.take j))/\Hid (KAns wr base (.slice (some ⟨g,0,none⟩) ks.length cap) rs (markK k (ks.take j)++ks.drop j)/\Tn (g::rs.filterMap Value.ownBlock) w wr)) (fun _ i _=>ks.length -(intOf i).toNat)
 case atStart=>exact⟨0,k,Nat.zero_le _,rfl,rfl,(show k=_ by simp[refsN]),⟨by simpa [markK] using H0.out,Tn.of (Below.refl _ _)⟩⟩
 case round=>
  clear H0;obtain⟨j,K,hj,rfl,rfl,HK,HM⟩:=hrel;have hrt:=refsN_take ks j;by_cases hlt:j<ks.length
  ·have hlt':(j:Int)<ks.length:=by omega
   have hg:ks[j]?=some ks[j]:=List.getElem?_eq_getElem hlt;have hrn:=refsN_snoc hg;have hrt2:=refsN_take ks (j+1);have HS:Hid _:=markK_step (k:=k) hg;have hLj:(markK k (ks.take j)++ks.drop j)[j]?=some ks[j]:=by
    rw[List.getElem?_append_right (by rw[markK_length,List.length_take];omega),markK_length,List.length_take,List.getElem?_drop];rw[show j+(j -min j ks.length)=j by omega];exact hg
   have hll:(markK k (ks.take j)++ks.drop j).length=ks.length:=by
    rw[List.length_append,markK_length,List.length_take,List.length_drop];omega
   generalize hLe:markK k (ks.take j)++ks.drop j=Lj at *
   have hKe:=HK.out;generalize ks[j]=x at *
   obtain⟨M1,M2⟩:=HM.out;have hrl:rs.length=ks.length:=M1.len.trans hll;obtain⟨r,hrj⟩:∃r,rs[j]?=some r:=⟨rs[j]'(by omega),List.getElem?_eq_getElem (by omega)⟩;have hor:=M1.refs j x r hLj hrj;obtain⟨ra,rc,rfl⟩:=own_val hor;have hth:=M1.things;rw[hll] at hth
   have hzj:(Lj.zip rs)[j]?=some (x,Value.slice ra x.refs.length rc):=(List.getElem?_zip_eq_some (z:=(x,Value.slice ra x.refs.length rc))).2 ⟨hLj,hrj⟩;have hxl:=hth.1;have hgr:∀b,(Value.slice ra x.refs.length rc).ownBlock=some b->b≠g:=fun b hb e=>by
    have:=M1.nd;simp only[Value.ownBlock,Option.toList_some,List.cons_append,List.nil_append,List.nodup_cons] at this;exact this.1 (e▸List.mem_filterMap.2 ⟨_,List.mem_of_getElem? hrj,hb⟩)
   have HTh:Hid _:=hth;have HOr:Hid _:=hor;have HM1:Hid _:=And.intro M1 M2;have HZ:Hid _:=hzj;have hK1:1<=K:=by omega
   have hK2:K+3+x.refs.length<=100000000:=by omega
   have HX:Hid (j *4+4<=(rowC kC (Lj.zip rs)).length):=by show _<=_;omega
   have HLe:Hid _:=hLe;have HKe:Hid _:=hKe;have HN:Hid _:=And.intro hrn (And.intro hrt2 hll);have HR:Hid _:=And.intro hrj hrl;clear M1 M2 hth hor hg HM hzj hLj hLe hKe hrn hrt2 hll hrj hrl hxl hrt;go_wp2_with fail;refine(markText_at K _ _ rfl (by omega) (by omega)).mono ?_;rintro e w2 ⟨rfl,hb2⟩;have h2:=own_below HTh.out hb2;have hxl:=HX.out
   have c2:∃v,w2.cell? ⟨g,j *4,none⟩=some v:=⟨_,(h2.cellAt (j *4) (by omega)).trans (List.getElem?_eq_getElem (by omega))⟩;obtain⟨v2,c2⟩:=c2;have c3:∃v,w2.cell? ⟨g,j *4+1,none⟩=some v:=⟨_,(h2.cellAt (j *4+1) (by omega)).trans (List.getElem?_eq_getElem (by omega))⟩;obtain⟨v3,c3⟩:=c3;have ff:=h2.frozenAt;have f2:=ff (j *4);have f3:=ff (j *4+1)
   have h3:=((h2.stored (j *4) (.string (mkT K))).1.stored (j *4+1) (.int .i64 ((K:Int)+1))).1;have HO3:Hid _:=own_set (own_set (own_below HOr.out hb2) hgr (j *4) (.string (mkT K))) hgr (j *4+1) (.int .i64 ((K:Int)+1))
   have T3:Hid (Tn [g] wr ((w2.setCell ⟨g,j *4,none⟩ (.string (mkT K))).setCell ⟨g,j *4+1,none⟩ (.int .i64 ((K:Int)+1)))):=((Tn.of hb2).trans (Tn.set w2 g _ _ (by simp))).trans (Tn.set _ g _ _ (by simp));have H3:Hid _:=h3;clear h2 h3 hb2 ff hxl;go_wp2_with fail;refine(markText_at (K+1+1) _ _ (by omega) (by omega) (by omega)).mono ?_;rintro e w4 ⟨rfl,hb4⟩;have h4:=own_below H3.out hb4
   have hxl:=HX.out;have hx4:j *4+4<=((((rowC kC (Lj.zip rs)).set (j *4) (.string (mkT K))).set (j *4+1) (.int .i64 ((K:Int)+1)))).length:=by simpa using hxl
   have c4:∃v,w4.cell? ⟨g,j *4+2,none⟩=some v:=⟨_,(h4.cellAt (j *4+2) (by omega)).trans (List.getElem?_eq_getElem (by omega))⟩;obtain⟨v4,c4⟩:=c4;have f4:=h4.frozenAt (j *4+2);have c5:w4.cell? ⟨g,j *4+3,none⟩=some (.slice ra x.refs.length rc):=by
    rw[h4.cellAt (j *4+3) (by omega),List.getElem?_set_ne (by omega),List.getElem?_set_ne (by omega)];exact row_get kC_len4 HZ.out (show 3<4 by decide)
   have h5:=(h4.stored (j *4+2) (.string (mkT (K+1+1)))).1;rw[row_set3 HZ.out ⟨mkT K,(K:Int)+1,mkT (K+1+1),marks (K+1+1+1) x.refs.length⟩] at h5;have HO5:Hid _:=own_set (own_below HO3.out hb4) hgr (j *4+2) (.string (mkT (K+1+1)));have T5:Hid (Tn [g] wr (w4.setCell ⟨g,j *4+2,none⟩ (.string (mkT (K+1+1))))):=(T3.out.trans (Tn.of hb4)).trans (Tn.set w4 g _ _ (by simp));have H5:Hid _:=h5
   clear h4 h5 hb4 c2 f2 c3 f3 HO3 T3 H3 hxl hx4;have hcall:=markS_any ra x.refs.length rc (K+1+1+1) base _ (w4.setCell ⟨g,j *4+2,none⟩ (.string (mkT (K+1+1)))) HO5.out (by omega) (by omega);rw[show((K+1+1+1:Nat):Int)=(K:Int)+1+1+1 from by omega] at hcall;have HC:Hid _:=hcall;clear hcall;go_wp2_with fail;refine Calls.mono HC.out ?_;rintro e w6 ⟨rfl,ho6,hg6⟩;have HF:Hid _:=And.intro ho6 hg6
   clear ho6 hg6 HC c4 f4 c5;go_wp2;obtain⟨hrn,hrt2,hll⟩:=HN.out;obtain⟨hrj,hrl⟩:=HR.out;have hKe:=HKe.out;obtain⟨M1,M2⟩:=HM1.out;obtain⟨ho6,hg6⟩:=HF.out;have hnd:=M1.nd;simp only[Value.ownBlock,Option.toList_some,List.cons_append,List.nil_append,List.nodup_cons] at hnd
   have hst:∀b,b<wr.heap.size->b≠g->(Value.slice ra x.refs.length rc).ownBlock≠some b->w6.heap[b]?=wr.heap[b]?:=fun b h1 h2 h3=>(hg6.block b (Nat.lt_of_lt_of_le h1 T5.out.size) (fun e=>h3 e.symm)).trans (T5.out.block b h1 (by simpa using h2));have hTg:Tn (g::rs.filterMap Value.ownBlock) wr w6:=by
    refine⟨hg6.os.trans T5.out.os,hg6.tape.trans T5.out.tape,hg6.output.trans T5.out.output,Nat.le_trans T5.out.size hg6.size,fun b h1 h2=> ?_⟩;refine hst b h1 (fun e=>h2 (by simp[e])) (fun e=>h2 (List.mem_cons_of_mem _ (List.mem_filterMap.2 ⟨_,List.mem_of_getElem? hrj,e⟩)))
   refine⟨⟨j+1,K+1+1+1+x.refs.length,by omega,by go_num,by go_num,?_,?_,M2.trans hTg⟩,by simp[intOf];omega⟩
   ·show _=_
    omega
   ·rw[HS.out,←hKe]
    refine⟨by rw[List.length_set];omega,?_,?_,M1.nd⟩
    ·rw[List.length_set,hll,zip_set hrj]
     exact World.ownsRow.kept H5.out hg6 (.inr (fun e=>hgr g e.symm rfl))
    ·intro i y r' hy hr'
     by_cases hij:i=j
     ·subst hij
      rw[hrj] at hr';cases hr';rw[List.getElem?_set_self (by omega)] at hy;cases hy;show w6.ownsRow base 9 1 _ (marks (K+1+1+1) x.refs.length).length _;rw[marks_length];exact ho6
     ·rw[List.getElem?_set_ne (fun e=>hij e.symm)] at hy
      refine own_same (M1.refs i y r' hy hr') (fun b hb=>hst b (own_lt (M1.refs i y r' hy hr') hb).2 (fun e=>hnd.1 (e▸List.mem_filterMap.2 ⟨_,List.mem_of_getElem? hr',hb⟩)) (fun e=>hij (nd_idx hnd.2 hr' hrj hb e)))
  ·obtain rfl:j=ks.length:=by omega
   have hKe:=HK.out;have hMe:=HM.out;rw[List.take_of_length_le (Nat.le_refl _)] at hKe hMe;rw[List.drop_of_length_le (Nat.le_refl _),List.append_nil] at hMe;have HM':Hid _:=hMe;clear hMe HM;subst hKe;go_wp2;go_ret;exact⟨rfl,HM'.out.1,HM'.out.2⟩
end Go.Proofs.YthkmpihfhkmaoaaGreatDoor
namespace Go.Proofs.YthkmpihfhkmaoaaGreatDoor
open Go.ChangeShapes Go.WideShapes Go.ChangeAt Go.RowKit
theorem markK_get {k j:Nat} {ks:List Kd} {x:Kd} (hx:ks[j]?=some x):(markK k ks)[j]?=some (markX (k+j *3+refsN (ks.take j)) x):=by
 obtain⟨hlt,rfl⟩:=List.getElem?_eq_some_iff.1 hx;have h1:ks=ks.take j++ks.drop j:=(List.take_append_drop j ks).symm;have hl:(markK k (ks.take j)).length=j:=by rw[markK_length,List.length_take];omega
 have hl2:(ks.take j).length=j:=by rw[List.length_take];omega
 conv=>lhs;rw[h1,markK_append,hl2,List.drop_eq_getElem_cons hlt]
 rw[List.getElem?_append_right (by omega),hl,Nat.sub_self];rfl
set_option maxRecDepth 20000 in
set_option maxHeartbeats 4000000 in
theorem heldKeptX (base g cap k:Nat) (rs:List Value) (ks:List Kd) (w:World) (h:KAns w base (.slice (some ⟨g,0,none⟩) ks.length cap) rs (markK k ks)) (hk:1<=k) (hkn:k+ks.length *3+refsN ks<=100000000):
 Calls Tryz.prog 118 #[.slice (some ⟨g,0,none⟩) ks.length cap,.int .i64 k] w fun e w'=>e=.returned (.int .i64 (k+ks.length *3+refsN ks:Nat))/\Below w.heap.size w w':=by
 have H0:Hid _:=h;have hgl:g<w.heap.size:=(own_lt h.things rfl).2;clear h;go_enter Tryz.func118,Tryz.ntmps118;go_wp2
 go_loopw [1,5] (fun v i wr=>∃(j K:Nat),j<=ks.length/\i=.int .i64 j/\v=.int .i64 K/\Hid (K=k+j *3+refsN (ks.take j))/\Below w.heap.size w wr) (fun _ i _=>ks.length -(intOf i).toNat)
 case atStart=>exact⟨0,k,Nat.zero_le _,rfl,rfl,(show k=_ by simp[refsN]),Below.refl _ _⟩
 case round=>
  obtain⟨j,K,hj,rfl,rfl,HK,hbel⟩:=hrel;have hrt:=refsN_take ks j;have hzr:=hbel.size;by_cases hlt:j<ks.length
  ·have hlt':(j:Int)<ks.length:=by omega
   have hg:ks[j]?=some ks[j]:=List.getElem?_eq_getElem hlt;have hrn:=refsN_snoc hg;have hrt2:=refsN_take ks (j+1);have hLj:=markK_get (k:=k) hg;have hKe:=HK.out;rw[←hKe] at hLj;generalize ks[j]=x at *
   have hrl:rs.length=ks.length:=H0.out.len.trans (markK_length k ks);obtain⟨r,hrj⟩:∃r,rs[j]?=some r:=⟨rs[j]'(by omega),List.getElem?_eq_getElem (by omega)⟩;have hor:=H0.out.refs j _ r hLj hrj;have hml:(markX K x).refs.length=x.refs.length:=marks_length _ _;rw[hml] at hor;obtain⟨ra,rc,rfl⟩:=own_val hor;have hth:=H0.out.things;rw[markK_length] at hth
   have hzj:((markK k ks).zip rs)[j]?=some (markX K x,Value.slice ra x.refs.length rc):=(List.getElem?_zip_eq_some (z:=(markX K x,Value.slice ra x.refs.length rc))).2 ⟨hLj,hrj⟩;have hxl:=hth.1;have c0:w.cell? ⟨g,j *4,none⟩=some (.string (mkT K)):=(hth.cellAt (j *4) (by omega)).trans (row_get kC_len4 hzj (show 0<4 by decide))
   have c1:w.cell? ⟨g,j *4+1,none⟩=some (.int .i64 ((K:Int)+1)):=(hth.cellAt (j *4+1) (by omega)).trans (row_get kC_len4 hzj (show 1<4 by decide));have c2:w.cell? ⟨g,j *4+2,none⟩=some (.string (mkT (K+1+1))):=(hth.cellAt (j *4+2) (by omega)).trans (row_get kC_len4 hzj (show 2<4 by decide))
   have c3:w.cell? ⟨g,j *4+3,none⟩=some (.slice ra x.refs.length rc):=(hth.cellAt (j *4+3) (by omega)).trans (row_get kC_len4 hzj (show 3<4 by decide));have HR:Hid (SRow w w.heap.size ra (marks (K+1+1+1) x.refs.length)):=by
    have h1:w.ownsRow base 9 1 (.slice ra (marks (K+1+1+1) x.refs.length).length rc) (marks (K+1+1+1) x.refs.length).length ((marks (K+1+1+1) x.refs.length).map Value.string):=by
     rw[marks_length];exact hor
    rcases h1.2 with⟨hv,h0⟩|⟨q,cap',cur,hv,_⟩
    ·exact .inl (List.eq_nil_of_length_eq_zero h0)
    ·cases hv
     exact SRow.own h1
   have hK1:1<=K:=by omega
   have hK2:K+3+x.refs.length<=100000000:=by omega
   have HN:Hid _:=And.intro hrn hKe;clear hth hor hg hzj hLj hKe hrn hrt2 hrj hrl hxl hrt hml;have y0:=(hbel.cell (p:=⟨g,j *4,none⟩) hgl).trans c0;have q0:=Cls.cell y0 (show g<wr.heap.size by omega);have hne:=Cls.ne wr
   have HC0:Hid (∀m:Cls wr,Calls Tryz.prog 117 #[.int .i64 K] m.w fun e w'=>e=.returned (.string (mkT K))/\Below m.w.heap.size m.w w'):=fun m=>markText_at K _ m.w rfl (by omega) (by omega);have HC:Hid _:=And.intro c1 (And.intro c2 c3);clear c0 c1 c2 c3 y0;go_wp2;refine region_cls_lit (by kernel_rfl) (by kernel_rfl) ?_
   repeat (go_big_quiet_step (exact Cls.calls (HC0.out _)))
   refine wpQuiet_nil ?_;intro m;have bm:Below w.heap.size w m.w:=hbel.trans (m.h.mono hzr);have y1:=(bm.cell (p:=⟨g,j *4+1,none⟩) hgl).trans HC.out.1;have y2:=(bm.cell (p:=⟨g,j *4+2,none⟩) hgl).trans HC.out.2.1;have y3:=(bm.cell (p:=⟨g,j *4+3,none⟩) hgl).trans HC.out.2.2;have hzm:=bm.size;generalize m.w=wm at *
   clear q0 hne HC0 m;have q2:=Cls.cell y2 (show g<wm.heap.size by omega);have hne:=Cls.ne wm;have HC2:Hid (∀m:Cls wm,Calls Tryz.prog 117 #[.int .i64 ((K:Int)+1+1)] m.w fun e w'=>e=.returned (.string (mkT (K+1+1)))/\Below m.w.heap.size m.w w'):=fun m=>markText_at (K+1+1) _ m.w (by omega) (by omega) (by omega);have HY3:Hid _:=y3;clear y2 y3;go_wp2
   refine region_cls_lit (by kernel_rfl) (by kernel_rfl) ?_
   repeat (go_big_quiet_step (exact Cls.calls (HC2.out _)))
   refine wpQuiet_nil ?_;intro m2;have bm2:Below w.heap.size w m2.w:=bm.trans (m2.h.mono hzm);have z3:=(m2.h.cell (p:=⟨g,j *4+3,none⟩) (show g<wm.heap.size by omega)).trans HY3.out;have hcall:=heldS_any ra x.refs.length rc (K+1+1+1) w.heap.size m2.w (SRow.below HR.out bm2) bm2.size (by omega) (by omega);rw[show((K+1+1+1:Nat):Int)=(K:Int)+1+1+1 from by omega] at hcall;have HL:Hid _:=hcall
   have hz2:=bm2.size;generalize m2.w=w2 at *
   clear q2 hne HC2 m2 hcall y1 HY3;go_wp2_with fail;refine Calls.mono HL.out ?_;rintro e w3 ⟨rfl,hb3⟩;clear z3 HL;go_wp2;exact⟨⟨j+1,K+1+1+1+x.refs.length,by omega,by go_num,by go_num,(by have:=HN.out;show _=_;omega),bm2.trans (hb3.mono hz2)⟩,by simp[intOf];omega⟩
  ·obtain rfl:j=ks.length:=by omega
   have hKe:=HK.out;rw[List.take_of_length_le (Nat.le_refl _)] at hKe;subst hKe;go_wp2;go_ret;exact⟨rfl,hbel⟩
end Go.Proofs.YthkmpihfhkmaoaaGreatDoor
namespace Go.Proofs.YthkmpihfhkmaoaaGreatDoor
open Go.ChangeShapes Go.WideShapes Go.ChangeAt Go.RowKit
def markP (k:Nat) (ps:List Pd):List Pd:=(List.range ps.length).map fun i=>⟨mkT (k+i *2),mkT (k+i *2+1)⟩
def markL (k:Nat) (ls:List Ld):List Ld:=(List.range ls.length).map fun(i:Nat)=>⟨(k:Int)+(i:Int) *3,mkT (k+i *3+1),(k:Int)+(i:Int) *3+1+1⟩
theorem markP_length (k:Nat) (ps:List Pd):(markP k ps).length=ps.length:=by simp[markP]
theorem markL_length (k:Nat) (ls:List Ld):(markL k ls).length=ls.length:=by simp[markL]
theorem markP_get {k i:Nat} {ps:List Pd} (h:i<ps.length):(markP k ps)[i]?=some ⟨mkT (k+i *2),mkT (k+i *2+1)⟩:=by simp[markP,h]
theorem markL_get {k i:Nat} {ps:List Ld} (h:i<ps.length):(markL k ps)[i]?=some ⟨(k:Int)+(i:Int) *3,mkT (k+i *3+1),(k:Int)+(i:Int) *3+1+1⟩:=by simp[markL,h]
theorem row_setP:∀{zs:List Pd} {i:Nat},i<zs.length->∀y:Pd,((rowC pC zs).set (i *2) (.string y.name)).set (i *2+1) (.string y.sum)=rowC pC (zs.set i y)
 |[],i,h,_=>by simp at h
 |z::zs,0,h,y=>by simp[rowC,pC]
 |z::zs,i+1,h,y=>by
  have ih:=row_setP (zs:=zs) (i:=i) (by simpa using h) y;have e:rowC pC (z::zs)=pC z++rowC pC zs:=by simp[rowC]
  have e2:rowC pC ((z::zs).set (i+1) y)=pC z++rowC pC (zs.set i y):=by simp[rowC]
  rw[e,e2,←ih,show(i+1) *2=(pC z).length+i *2 by rw[pC_len];omega];rw[List.set_append_right _ _ (by omega),Nat.add_sub_cancel_left,show(pC z).length+i *2+1=(pC z).length+(i *2+1) by omega,List.set_append_right _ _ (by omega),Nat.add_sub_cancel_left]
theorem row_setL:∀{zs:List Ld} {i:Nat},i<zs.length->∀y:Ld,(((rowC lC zs).set (i *3) (.int .i64 y.num)).set (i *3+1) (.string y.sum)).set (i *3+2) (.int .i64 y.til)=rowC lC (zs.set i y)
 |[],i,h,_=>by simp at h
 |z::zs,0,h,y=>by simp[rowC,lC]
 |z::zs,i+1,h,y=>by
  have ih:=row_setL (zs:=zs) (i:=i) (by simpa using h) y;have e:rowC lC (z::zs)=lC z++rowC lC zs:=by simp[rowC]
  have e2:rowC lC ((z::zs).set (i+1) y)=lC z++rowC lC (zs.set i y):=by simp[rowC]
  rw[e,e2,←ih,show(i+1) *3=(lC z).length+i *3 by rw[lC_len];omega];rw[List.set_append_right _ _ (by omega),Nat.add_sub_cancel_left,show(lC z).length+i *3+1=(lC z).length+(i *3+1) by omega,List.set_append_right _ _ (by omega),Nat.add_sub_cancel_left,show(lC z).length+i *3+2=(lC z).length+(i *3+2) by omega,List.set_append_right _ _ (by omega),Nat.add_sub_cancel_left]
set_option maxHeartbeats 400000 in
theorem markKeptS_zero (a:Option Addr) (cap k:Nat) (w:World):Calls Tryz.prog 50 #[.slice a 0 cap,.int .i64 k] w fun e w'=>e=.returned (.int .i64 k)/\w'=w:=by
 go_enter Tryz.func50,Tryz.ntmps50;go_wp2
 go_loopw [1,5] (fun v i wr=>v=.int .i64 k/\i=.int .i64 0/\wr=w) (fun _ _ _=>0)
 case atStart=>exact⟨rfl,rfl,rfl⟩
 case round=>
  obtain⟨rfl,rfl,rfl⟩:=hrel;go_wp2;go_ret;exact⟨rfl,rfl⟩
set_option maxHeartbeats 400000 in
theorem heldKeptS_zero (a:Option Addr) (cap k:Nat) (w:World):Calls Tryz.prog 118 #[.slice a 0 cap,.int .i64 k] w fun e w'=>e=.returned (.int .i64 k)/\w'=w:=by
 go_enter Tryz.func118,Tryz.ntmps118;go_wp2
 go_loopw [1,5] (fun v i wr=>v=.int .i64 k/\i=.int .i64 0/\wr=w) (fun _ _ _=>0)
 case atStart=>exact⟨rfl,rfl,rfl⟩
 case round=>
  obtain⟨rfl,rfl,rfl⟩:=hrel;go_wp2;go_ret;exact⟨rfl,rfl⟩
set_option maxHeartbeats 400000 in
theorem markPinS_zero (a:Option Addr) (cap k:Nat) (w:World):Calls Tryz.prog 51 #[.slice a 0 cap,.int .i64 k] w fun e w'=>e=.returned (.int .i64 k)/\w'=w:=by
 go_enter Tryz.func51,Tryz.ntmps51;go_wp2
 go_loopw [1,5] (fun v i wr=>v=.int .i64 k/\i=.int .i64 0/\wr=w) (fun _ _ _=>0)
 case atStart=>exact⟨rfl,rfl,rfl⟩
 case round=>
  obtain⟨rfl,rfl,rfl⟩:=hrel;go_wp2;go_ret;exact⟨rfl,rfl⟩
set_option maxHeartbeats 400000 in
theorem heldPinS_zero (a:Option Addr) (cap k:Nat) (w:World):Calls Tryz.prog 119 #[.slice a 0 cap,.int .i64 k] w fun e w'=>e=.returned (.int .i64 k)/\w'=w:=by
 go_enter Tryz.func119,Tryz.ntmps119;go_wp2
 go_loopw [1,5] (fun v i wr=>v=.int .i64 k/\i=.int .i64 0/\wr=w) (fun _ _ _=>0)
 case atStart=>exact⟨rfl,rfl,rfl⟩
 case round=>
  obtain⟨rfl,rfl,rfl⟩:=hrel;go_wp2;go_ret;exact⟨rfl,rfl⟩
set_option maxHeartbeats 400000 in
theorem markLeaseS_zero (a:Option Addr) (cap k:Nat) (w:World):Calls Tryz.prog 52 #[.slice a 0 cap,.int .i64 k] w fun e w'=>e=.returned (.int .i64 k)/\w'=w:=by
 go_enter Tryz.func52,Tryz.ntmps52;go_wp2
 go_loopw [1,5] (fun v i wr=>v=.int .i64 k/\i=.int .i64 0/\wr=w) (fun _ _ _=>0)
 case atStart=>exact⟨rfl,rfl,rfl⟩
 case round=>
  obtain⟨rfl,rfl,rfl⟩:=hrel;go_wp2;go_ret;exact⟨rfl,rfl⟩
set_option maxHeartbeats 400000 in
theorem heldLeaseS_zero (a:Option Addr) (cap k:Nat) (w:World):Calls Tryz.prog 120 #[.slice a 0 cap,.int .i64 k] w fun e w'=>e=.returned (.int .i64 k)/\w'=w:=by
 go_enter Tryz.func120,Tryz.ntmps120;go_wp2
 go_loopw [1,5] (fun v i wr=>v=.int .i64 k/\i=.int .i64 0/\wr=w) (fun _ _ _=>0)
 case atStart=>exact⟨rfl,rfl,rfl⟩
 case round=>
  obtain⟨rfl,rfl,rfl⟩:=hrel;go_wp2;go_ret;exact⟨rfl,rfl⟩
set_option maxRecDepth 20000 in
set_option maxHeartbeats 2000000 in
theorem markPinX (base g cap k:Nat) (ps:List Pd) (w:World) (h:w.ownsRow base 130 2 (.slice (some ⟨g,0,none⟩) ps.length cap) ps.length (rowC pC ps)) (hk:1<=k) (hkn:k+ps.length *2<=100000000):
 Calls Tryz.prog 51 #[.slice (some ⟨g,0,none⟩) ps.length cap,.int .i64 k] w fun e w'=>e=.returned (.int .i64 (k+ps.length *2:Nat))/\w'.ownsRow base 130 2 (.slice (some ⟨g,0,none⟩) ps.length cap) ps.length (rowC pC (markP k ps))/\w.grownBy w' (some g):=by
 have H0:Hid _:=h;clear h;go_enter Tryz.func51,Tryz.ntmps51;go_wp2
 go_loopw [1,5] (fun v i wr=>∃(j K:Nat) (zs:List Pd),j<=ps.length/\i=.int .i64 j/\v=.int .i64 K/\K=k+j *2/\Hid (zs.length=ps.length/\(∀i,i<j->zs[i]?=(markP k ps)[i]?)/\wr.ownsRow base 130 2 (.slice (some ⟨g,0,none⟩) ps.length cap) ps.length (rowC pC zs)/\w.grownBy wr (some g))) (fun _ i _=>ps.length -(intOf i).toNat)
 case atStart=>exact⟨0,k,ps,Nat.zero_le _,rfl,rfl,by omega,rfl,(fun i h=>by omega),H0.out,grown_refl _ _⟩
 case round=>
  clear H0;obtain⟨j,K,zs,hj,rfl,rfl,hK,HM⟩:=hrel;by_cases hlt:j<ps.length
  ·have hlt':(j:Int)<ps.length:=by omega
   have HX:Hid (j *2+2<=(rowC pC zs).length):=by show _<=_;have:=HM.out.2.2.1.1;omega
   have HKe:Hid _:=hK;have hK1:1<=K:=by omega
   have hK2:K+2<=100000000:=by omega
   clear hK;go_wp2_with fail;refine(markText_at K _ _ rfl (by omega) (by omega)).mono ?_;rintro e w2 ⟨rfl,hb2⟩;have hxl:=HX.out;have h2:=own_below HM.out.2.2.1 hb2;obtain⟨v2,c2⟩:∃v,w2.cell? ⟨g,j *2,none⟩=some v:=⟨_,(h2.cellAt (j *2) (by omega)).trans (List.getElem?_eq_getElem (by omega))⟩;have f2:=h2.frozenAt (j *2)
   have H3:Hid _:=And.intro (h2.stored (j *2) (.string (mkT K))).1 (grown_trans HM.out.2.2.2 (grown_trans (grown_below _ hb2) (h2.stored (j *2) (.string (mkT K))).2));clear h2 hb2 hxl;go_wp2_with fail;refine(markText_at (K+1) _ _ (by omega) (by omega) (by omega)).mono ?_;rintro e w3 ⟨rfl,hb3⟩;have hxl:=HX.out;have h3:=own_below H3.out.1 hb3
   have hx3:j *2+2<=((rowC pC zs).set (j *2) (.string (mkT K))).length:=by simpa using hxl
   obtain⟨v3,c3⟩:∃v,w3.cell? ⟨g,j *2+1,none⟩=some v:=⟨_,(h3.cellAt (j *2+1) (by omega)).trans (List.getElem?_eq_getElem (by omega))⟩;have f3:=h3.frozenAt (j *2+1);have hzl:=HM.out.1;have h4:=(h3.stored (j *2+1) (.string (mkT (K+1)))).1;rw[row_setP (by omega) ⟨mkT K,mkT (K+1)⟩] at h4
   have H4:Hid _:=And.intro h4 (grown_trans H3.out.2 (grown_trans (grown_below _ hb3) (h3.stored (j *2+1) (.string (mkT (K+1)))).2));clear h3 h4 hb3 c2 f2 hxl hx3 hzl;go_wp2;refine⟨⟨j+1,K+1+1,zs.set j ⟨mkT K,mkT (K+1)⟩,by omega,by go_num,by go_num,by have:=HKe.out;omega,by rw[List.length_set];exact HM.out.1,?_,H4.out.1,H4.out.2⟩,by simp[intOf];omega⟩;intro i hi;rcases Nat.lt_or_ge i j with h'|h'
   ·rw[List.getElem?_set_ne (by omega)]
    exact HM.out.2.1 i h'
   ·obtain rfl:i=j:=by omega
    rw[List.getElem?_set_self (by have:=HM.out.1;omega),markP_get hlt,←HKe.out]
  ·obtain rfl:j=ps.length:=by omega
   subst hK;obtain⟨z1,z2,z3,z4⟩:=HM.out;have hze:zs=markP k ps:=by
    apply List.ext_getElem?;intro i;rcases Nat.lt_or_ge i ps.length with h|h
    ·exact z2 i h
    ·rw[List.getElem?_eq_none (by omega),List.getElem?_eq_none (by rw[markP_length];omega)]
   subst hze;have HZ:Hid _:=And.intro z3 z4;clear z1 z2 z3 z4 HM;go_wp2;go_ret;exact⟨rfl,HZ.out.1,HZ.out.2⟩
set_option maxRecDepth 20000 in
set_option maxHeartbeats 2000000 in
theorem markLeaseX (base g cap k:Nat) (ps:List Ld) (w:World) (h:w.ownsRow base 131 3 (.slice (some ⟨g,0,none⟩) ps.length cap) ps.length (rowC lC ps)) (hk:1<=k) (hkn:k+ps.length *3<=100000000):
 Calls Tryz.prog 52 #[.slice (some ⟨g,0,none⟩) ps.length cap,.int .i64 k] w fun e w'=>e=.returned (.int .i64 (k+ps.length *3:Nat))/\w'.ownsRow base 131 3 (.slice (some ⟨g,0,none⟩) ps.length cap) ps.length (rowC lC (markL k ps))/\w.grownBy w' (some g):=by
 have H0:Hid _:=h;clear h;go_enter Tryz.func52,Tryz.ntmps52;go_wp2
 go_loopw [1,5] (fun v i wr=>∃(j K:Nat) (zs:List Ld),j<=ps.length/\i=.int .i64 j/\v=.int .i64 K/\K=k+j *3/\Hid (zs.length=ps.length/\(∀i,i<j->zs[i]?=(markL k ps)[i]?)/\wr.ownsRow base 131 3 (.slice (some ⟨g,0,none⟩) ps.length cap) ps.length (rowC lC zs)/\w.grownBy wr (some g))) (fun _ i _=>ps.length -(intOf i).toNat)
 case atStart=>exact⟨0,k,ps,Nat.zero_le _,rfl,rfl,by omega,rfl,(fun i h=>by omega),H0.out,grown_refl _ _⟩
 case round=>
  clear H0;obtain⟨j,K,zs,hj,rfl,rfl,hK,HM⟩:=hrel;by_cases hlt:j<ps.length
  ·have hlt':(j:Int)<ps.length:=by omega
   have HX:Hid (j *3+3<=(rowC lC zs).length):=by show _<=_;have:=HM.out.2.2.1.1;omega
   have HKe:Hid _:=hK;have hK1:1<=K:=by omega
   have hK2:K+3<=100000000:=by omega
   clear hK;have hxl:=HX.out;have h2:=HM.out.2.2.1;obtain⟨v2,c2⟩:∃v,wr.cell? ⟨g,j *3,none⟩=some v:=⟨_,(h2.cellAt (j *3) (by omega)).trans (List.getElem?_eq_getElem (by omega))⟩;have f2:=h2.frozenAt (j *3);have H3:Hid _:=And.intro (h2.stored (j *3) (.int .i64 K)).1 (grown_trans HM.out.2.2.2 (h2.stored (j *3) (.int .i64 K)).2);clear h2 hxl;go_wp2_with fail
   refine(markText_at (K+1) _ _ (by omega) (by omega) (by omega)).mono ?_;rintro e w3 ⟨rfl,hb3⟩;have hxl:=HX.out;have h3:=own_below H3.out.1 hb3;have hx3:j *3+3<=((rowC lC zs).set (j *3) (.int .i64 K)).length:=by simpa using hxl
   obtain⟨v3,c3⟩:∃v,w3.cell? ⟨g,j *3+1,none⟩=some v:=⟨_,(h3.cellAt (j *3+1) (by omega)).trans (List.getElem?_eq_getElem (by omega))⟩;have f3:=h3.frozenAt (j *3+1);obtain⟨v4,c4⟩:∃v,w3.cell? ⟨g,j *3+2,none⟩=some v:=⟨_,(h3.cellAt (j *3+2) (by omega)).trans (List.getElem?_eq_getElem (by omega))⟩;have f4:=h3.frozenAt (j *3+2);have hzl:=HM.out.1;have s4:=h3.stored (j *3+1) (.string (mkT (K+1)))
   have s5:=s4.1.stored (j *3+2) (.int .i64 ((K:Int)+1+1));have h5:=s5.1;rw[row_setL (by omega) ⟨K,mkT (K+1),(K:Int)+1+1⟩] at h5;have H4:Hid _:=And.intro h5 (grown_trans H3.out.2 (grown_trans (grown_below _ hb3) (grown_trans s4.2 s5.2)));clear h3 h5 s4 s5 hb3 c2 f2 hxl hx3 hzl;go_wp2
   refine⟨⟨j+1,K+1+1+1,zs.set j ⟨K,mkT (K+1),(K:Int)+1+1⟩,by omega,by go_num,by go_num,by have:=HKe.out;omega,by rw[List.length_set];exact HM.out.1,?_,H4.out.1,H4.out.2⟩,by simp[intOf];omega⟩;intro i hi;rcases Nat.lt_or_ge i j with h'|h'
   ·rw[List.getElem?_set_ne (by omega)]
    exact HM.out.2.1 i h'
   ·obtain rfl:i=j:=by omega
    rw[List.getElem?_set_self (by have:=HM.out.1;omega),markL_get hlt,HKe.out];simp
  ·obtain rfl:j=ps.length:=by omega
   subst hK;obtain⟨z1,z2,z3,z4⟩:=HM.out;have hze:zs=markL k ps:=by
    apply List.ext_getElem?;intro i;rcases Nat.lt_or_ge i ps.length with h|h
    ·exact z2 i h
    ·rw[List.getElem?_eq_none (by omega),List.getElem?_eq_none (by rw[markL_length];omega)]
   subst hze;have HZ:Hid _:=And.intro z3 z4;clear z1 z2 z3 z4 HM;go_wp2;go_ret;exact⟨rfl,HZ.out.1,HZ.out.2⟩
set_option maxRecDepth 20000 in
set_option maxHeartbeats 2000000 in
theorem heldPinX (base g cap k:Nat) (ps:List Pd) (w:World) (h:w.ownsRow base 130 2 (.slice (some ⟨g,0,none⟩) ps.length cap) ps.length (rowC pC (markP k ps))) (hk:1<=k) (hkn:k+ps.length *2<=100000000):
 Calls Tryz.prog 119 #[.slice (some ⟨g,0,none⟩) ps.length cap,.int .i64 k] w fun e w'=>e=.returned (.int .i64 (k+ps.length *2:Nat))/\Below w.heap.size w w':=by
 have H0:Hid _:=h;have hgl:g<w.heap.size:=(own_lt h rfl).2;clear h;go_enter Tryz.func119,Tryz.ntmps119;go_wp2
 go_loopw [1,5] (fun v i wr=>∃(j K:Nat),j<=ps.length/\i=.int .i64 j/\v=.int .i64 K/\K=k+j *2/\Below w.heap.size w wr) (fun _ i _=>ps.length -(intOf i).toNat)
 case atStart=>exact⟨0,k,Nat.zero_le _,rfl,rfl,by omega,Below.refl _ _⟩
 case round=>
  obtain⟨j,K,hj,rfl,rfl,hK,hbel⟩:=hrel;have hzr:=hbel.size;by_cases hlt:j<ps.length
  ·have hlt':(j:Int)<ps.length:=by omega
   have h0:w.ownsRow base 130 2 (.slice (some ⟨g,0,none⟩) ps.length cap) ps.length (rowC pC (markP k ps)):=H0.out;have hxl:=h0.1;have hgj:=markP_get (k:=k) hlt;rw[←hK] at hgj;have c0:w.cell? ⟨g,j *2,none⟩=some (.string (mkT K)):=(h0.cellAt (j *2) (by omega)).trans (row_get pC_len hgj (show 0<2 by decide))
   have c1:w.cell? ⟨g,j *2+1,none⟩=some (.string (mkT (K+1))):=(h0.cellAt (j *2+1) (by omega)).trans (row_get pC_len hgj (show 1<2 by decide));have HKe:Hid _:=hK;have hK1:1<=K:=by omega
   have hK2:K+2<=100000000:=by omega
   clear hK hxl hgj h0;have y0:=(hbel.cell (p:=⟨g,j *2,none⟩) hgl).trans c0;have q0:=Cls.cell y0 (show g<wr.heap.size by omega);have hne:=Cls.ne wr;have HC0:Hid (∀m:Cls wr,Calls Tryz.prog 117 #[.int .i64 K] m.w fun e w'=>e=.returned (.string (mkT K))/\Below m.w.heap.size m.w w'):=fun m=>markText_at K _ m.w rfl (by omega) (by omega);have HC:Hid _:=c1;clear c0 c1 y0;go_wp2
   refine region_cls_lit (by kernel_rfl) (by kernel_rfl) ?_
   repeat (go_big_quiet_step (exact Cls.calls (HC0.out _)))
   refine wpQuiet_nil ?_;intro m;have bm:Below w.heap.size w m.w:=hbel.trans (m.h.mono hzr);have y1:=(bm.cell (p:=⟨g,j *2+1,none⟩) hgl).trans HC.out;have hzm:=bm.size;generalize m.w=wm at *
   clear q0 hne HC0 m;have q1:=Cls.cell y1 (show g<wm.heap.size by omega);have hne:=Cls.ne wm;have HC2:Hid (∀m:Cls wm,Calls Tryz.prog 117 #[.int .i64 ((K:Int)+1)] m.w fun e w'=>e=.returned (.string (mkT (K+1)))/\Below m.w.heap.size m.w w'):=fun m=>markText_at (K+1) _ m.w (by omega) (by omega) (by omega);clear y1;go_wp2;refine region_cls_lit (by kernel_rfl) (by kernel_rfl) ?_
   repeat (go_big_quiet_step (exact Cls.calls (HC2.out _)))
   refine wpQuiet_nil ?_;intro m2;have bm2:Below w.heap.size w m2.w:=bm.trans (m2.h.mono hzm);clear q1 hne HC2;go_wp2;exact⟨⟨j+1,K+1+1,by omega,by go_num,by go_num,by have:=HKe.out;omega,bm2⟩,by simp[intOf];omega⟩
  ·obtain rfl:j=ps.length:=by omega
   subst hK;go_wp2;go_ret;exact⟨rfl,hbel⟩
set_option maxRecDepth 20000 in
set_option maxHeartbeats 2000000 in
theorem heldLeaseX (base g cap k:Nat) (ps:List Ld) (w:World) (h:w.ownsRow base 131 3 (.slice (some ⟨g,0,none⟩) ps.length cap) ps.length (rowC lC (markL k ps))) (hk:1<=k) (hkn:k+ps.length *3<=100000000):
 Calls Tryz.prog 120 #[.slice (some ⟨g,0,none⟩) ps.length cap,.int .i64 k] w fun e w'=>e=.returned (.int .i64 (k+ps.length *3:Nat))/\Below w.heap.size w w':=by
 have H0:Hid _:=h;have hgl:g<w.heap.size:=(own_lt h rfl).2;clear h;go_enter Tryz.func120,Tryz.ntmps120;go_wp2
 go_loopw [1,5] (fun v i wr=>∃(j K:Nat),j<=ps.length/\i=.int .i64 j/\v=.int .i64 K/\K=k+j *3/\Below w.heap.size w wr) (fun _ i _=>ps.length -(intOf i).toNat)
 case atStart=>exact⟨0,k,Nat.zero_le _,rfl,rfl,by omega,Below.refl _ _⟩
 case round=>
  obtain⟨j,K,hj,rfl,rfl,hK,hbel⟩:=hrel;have hzr:=hbel.size;by_cases hlt:j<ps.length
  ·have hlt':(j:Int)<ps.length:=by omega
   have h0:w.ownsRow base 131 3 (.slice (some ⟨g,0,none⟩) ps.length cap) ps.length (rowC lC (markL k ps)):=H0.out;have hxl:=h0.1;have hgj:=markL_get (k:=k) hlt;rw[←hK] at hgj;have c0:w.cell? ⟨g,j *3,none⟩=some (.int .i64 K):=by
    have:=(h0.cellAt (j *3) (by omega)).trans (row_get lC_len hgj (show 0<3 by decide));rw[this,hK];simp[lC]
   have c1:w.cell? ⟨g,j *3+1,none⟩=some (.string (mkT (K+1))):=(h0.cellAt (j *3+1) (by omega)).trans (row_get lC_len hgj (show 1<3 by decide));have c2:w.cell? ⟨g,j *3+2,none⟩=some (.int .i64 ((K:Int)+1+1)):=by
    have:=(h0.cellAt (j *3+2) (by omega)).trans (row_get lC_len hgj (show 2<3 by decide));rw[this,hK];simp[lC]
   have HKe:Hid _:=hK;have hK1:1<=K:=by omega
   have hK2:K+3<=100000000:=by omega
   clear hK hxl hgj h0;have y0:=(hbel.cell (p:=⟨g,j *3,none⟩) hgl).trans c0;have y1:=(hbel.cell (p:=⟨g,j *3+1,none⟩) hgl).trans c1;have q1:=Cls.cell y1 (show g<wr.heap.size by omega);have hne:=Cls.ne wr
   have HC0:Hid (∀m:Cls wr,Calls Tryz.prog 117 #[.int .i64 ((K:Int)+1)] m.w fun e w'=>e=.returned (.string (mkT (K+1)))/\Below m.w.heap.size m.w w'):=fun m=>markText_at (K+1) _ m.w (by omega) (by omega) (by omega);have HC:Hid _:=c2;clear c0 c1 c2 y1;go_wp2;refine region_cls_lit (by kernel_rfl) (by kernel_rfl) ?_
   repeat (go_big_quiet_step (exact Cls.calls (HC0.out _)))
   refine wpQuiet_nil ?_;intro m;have bm:Below w.heap.size w m.w:=hbel.trans (m.h.mono hzr);have y2:=(bm.cell (p:=⟨g,j *3+2,none⟩) hgl).trans HC.out;clear q1 hne HC0 y0;go_wp2;exact⟨⟨j+1,K+1+1+1,by omega,by go_num,by go_num,by have:=HKe.out;omega,bm⟩,by simp[intOf];omega⟩
  ·obtain rfl:j=ps.length:=by omega
   subst hK;go_wp2;go_ret;exact⟨rfl,hbel⟩
end Go.Proofs.YthkmpihfhkmaoaaGreatDoor
namespace Go.Proofs.YthkmpihfhkmaoaaGreatDoor
open Go.ChangeShapes Go.WideShapes Go.ChangeAt Go.RowKit
theorem zeros_one (k:Nat):∀v∈(Builtin.zeroCells #[.int .i64 0,.string ⟨#[]⟩,.int .i64 0] k).toList,v.oneCell'=true:=by
 intro v hv;simp only[Builtin.zeroCells,Array.toList_map,List.mem_map] at hv;obtain⟨i,_,rfl⟩:=hv;have h3:i%3=0∨i%3=1∨i%3=2:=by omega
 show(#[Value.int .i64 0,.string ⟨#[]⟩,.int .i64 0][i%3]!).oneCell'=true;rcases h3 with h|h|h<;>rw[h]<;>rfl
theorem run_clear_leases (w:World) (ty:TypeId) (b o k c:Nat) (hk:0<k) (hc:∀j,j<k *3->(w.cell? ⟨b,o+j,none⟩).isSome=true) (hf:∀j,j<k *3->w.frozen? ⟨b,o+j,none⟩=false):
 (Builtin.clear_ #[36] ty #[.slice (some ⟨b,o,none⟩) k c]).run Tryz.prog w=.ok (.tuple #[]) (w.setCells b o (Builtin.zeroCells #[.int .i64 0,.string ⟨#[]⟩,.int .i64 0] k).toList):=by
 have hl:(Builtin.zeroCells #[.int .i64 0,.string ⟨#[]⟩,.int .i64 0] k).toList.length=k *3:=by rw[Array.length_toList,size_zeroCells];rfl
 have hst:=run_storeCells_cells (P:=Tryz.prog) b o (Builtin.zeroCells #[.int .i64 0,.string ⟨#[]⟩,.int .i64 0] k).toList 0 w (by rw[hl];simpa using hc) (by rw[hl];simpa using hf) (zeros_one k);simp only[Nat.add_zero] at hst;have hzk:=zeroLease;have hcl:(Value.agg #[.int .i64 0,.string ⟨#[]⟩,.int .i64 0]).cells= #[.int .i64 0,.string ⟨#[]⟩,.int .i64 0]:=rfl
 obtain⟨k',rfl⟩:∃k',k=k'+1:=⟨k -1,by omega⟩;simp[Builtin.clear_,run_underlying Tryz.underlying36,hzk,hcl,hst]
theorem own_set3 {w:World} {base g cap n:Nat} {ls:List Ld} (h:w.ownsRow base 131 3 (.slice (some ⟨g,0,none⟩) n cap) n (rowC lC ls)) {i:Nat} (hi:i<ls.length) (y:Ld):(((w.setCell ⟨g,i *3,none⟩ (.int .i64 y.num)).setCell ⟨g,i *3+1,none⟩ (.string y.sum)).setCell ⟨g,i *3+2,none⟩ (.int .i64 y.til)).ownsRow base 131 3 (.slice (some ⟨g,0,none⟩) n cap) n (rowC lC (ls.set i y)):=by
 have h1:=(h.stored (i *3) (.int .i64 y.num)).1;have h2:=(h1.stored (i *3+1) (.string y.sum)).1;have h3:=(h2.stored (i *3+2) (.int .i64 y.til)).1;rw[row_setL hi y] at h3;exact h3
structure Mid (ls cur:List Ld) (n:Int) (i j:Nat):Prop where
 len:cur.length=ls.length
 kept:cur.take i=waitL (ls.take j) n
 rest:cur.drop j=ls.drop j
 lt:i<j
 le:j<=ls.length
theorem Mid.start {ls:List Ld} {n:Int} {i:Nat} {x:Ld} (hx:ls[i]?=some x) (ht:x.til<=n) (hb:∀j y,j<i->ls[j]?=some y->n<y.til):Mid ls ls n i (i+1):=by
 have hil:=(List.getElem?_eq_some_iff.1 hx).1;obtain⟨_,e⟩:=List.getElem?_eq_some_iff.1 hx;refine⟨rfl,?_,rfl,by omega,by omega⟩;unfold waitL;rw[List.take_succ_eq_append_getElem hil,List.filter_append,e];have h1:(ls.take i).filter (fun x=> !decide (x.til<=n))=ls.take i:=List.filter_eq_self.2 (fun y hy=>by
  obtain⟨j,hj⟩:=List.getElem?_of_mem hy;have hjl:=(List.getElem?_eq_some_iff.1 hj).1;rw[List.length_take] at hjl;have:=hb j y (by omega) (by rw[List.getElem?_take_of_lt (by omega)] at hj;exact hj);simp;omega)
 rw[h1];simp[ht]
theorem Mid.at {ls cur:List Ld} {n:Int} {i j:Nat} (h:Mid ls cur n i j) (hj:j<ls.length):cur[j]?=some ls[j]:=by
 have:=congrArg (fun l=>l[0]?) h.rest;simp only[List.getElem?_drop,Nat.add_zero] at this;rw[this,List.getElem?_eq_getElem hj]
theorem Mid.skip {ls cur:List Ld} {n:Int} {i j:Nat} (h:Mid ls cur n i j) (hj:j<ls.length) (ht:ls[j].til<=n):Mid ls cur n i (j+1):=by
 refine⟨h.len,?_,?_,by have:=h.lt;omega,by omega⟩
 ·rw[h.kept]
  unfold waitL;rw[List.take_succ_eq_append_getElem hj,List.filter_append];simp[ht]
 ·have:=congrArg (List.drop 1) h.rest
  rw[List.drop_drop,List.drop_drop] at this;exact this
theorem Mid.move {ls cur:List Ld} {n:Int} {i j:Nat} (h:Mid ls cur n i j) (hj:j<ls.length) (ht:n<ls[j].til):Mid ls (cur.set i ls[j]) n (i+1) (j+1):=by
 have hlt:=h.lt;have hlen:=h.len;have hil:i<cur.length:=by omega
 refine⟨by rw[List.length_set];exact hlen,?_,?_,by omega,by omega⟩
 ·have hnt:¬ls[j].til<=n:=by omega
  rw[List.take_succ_eq_append_getElem (by rw[List.length_set];exact hil),List.take_set_of_le (Nat.le_refl _),h.kept,List.getElem_set_self];unfold waitL;rw[List.take_succ_eq_append_getElem hj,List.filter_append];simp[hnt]
 ·have:=congrArg (List.drop 1) h.rest
  rw[List.drop_drop,List.drop_drop] at this;rw[List.drop_set_of_lt (by omega)];exact this
theorem Mid.done {ls cur:List Ld} {n:Int} {i:Nat} (h:Mid ls cur n i ls.length):cur.take i=waitL ls n/\(waitL ls n).length=i:=by
 have h1:=h.kept;rw[List.take_of_length_le (Nat.le_refl _)] at h1;refine⟨h1,?_⟩;rw[←h1,List.length_take];have:=h.lt;have:=h.len;omega
set_option maxRecDepth 20000 in
set_option maxHeartbeats 4000000 in
theorem deleteFunc_any (g cap base b d:Nat) (n:Int) (ls:List Ld) (w:World) (ho:w.ownsRow base 131 3 (.slice (some ⟨g,0,none⟩) ls.length cap) ls.length (rowC lC ls)) (hl:ls.length<=200) (hc:w.cell? ⟨b,0,none⟩=some (.pointer (some ⟨d,0,none⟩))) (hn:w.cell? ⟨d,2,none⟩=some (.int .i64 n)) (hbg:b≠g) (hdg:d≠g):
 Calls Tryz.prog 178 #[.slice (some ⟨g,0,none⟩) ls.length cap,.func (.func 179) #[] #[.pointer (some ⟨b,0,none⟩)]] w fun e w'=>e=.returned (.slice (some ⟨g,0,none⟩) (waitL ls n).length cap)/\w'.ownsRow base 131 3 (.slice (some ⟨g,0,none⟩) (waitL ls n).length cap) (waitL ls n).length (rowC lC (waitL ls n))/\w.grownBy w' (some g):=by
 have hcap:ls.length<=cap/\cap<=maxLen:=by
  rcases ho.2 with⟨e,_⟩|⟨g',cap',cur,e,hb,hg,h1,h2,h3,h4⟩
  ·cases e
  ·cases e;exact⟨h1,h2⟩
 obtain⟨hc1,hc2⟩:=hcap;unfold maxLen at hc2;have HX:Hid _:=indexWait_any (some ⟨g,0,none⟩) cap b d n ls w (LRow.own ho) (by omega) hc hn;have HO:Hid (w.ownsRow base 131 3 (.slice (some ⟨g,0,none⟩) ls.length cap) ls.length (rowC lC ls)):=ho
 have HC:Hid (∀X,w.grownBy X (some g)->X.cell? ⟨b,0,none⟩=some (.pointer (some ⟨d,0,none⟩))/\X.cell? ⟨d,2,none⟩=some (.int .i64 n)):=fun X hX=>⟨hX.cell hc (fun e=>hbg (Option.some.inj e)),hX.cell hn (fun e=>hdg (Option.some.inj e))⟩;clear ho hc hn hbg hdg;go_enter Tryz.func178,Tryz.ntmps178;go_wp2_with fail;refine Calls.mono HX.out ?_;rintro e w1 ⟨r,rfl,hr,hb1⟩
 have HO1:Hid (w1.ownsRow base 131 3 (.slice (some ⟨g,0,none⟩) ls.length cap) ls.length (rowC lC ls)):=own_below HO.out hb1;have HG1:Hid (w.grownBy w1 (some g)):=grown_below _ hb1;clear hb1 HX HO;rcases hr with⟨rfl,hall⟩|⟨i,x,rfl,hxi,hxt,hxb⟩
 ·have HE:Hid (waitL ls n=ls):=List.filter_eq_self.2 (fun y hy=>by have:=hall y hy;simp;omega)
  clear hall;go_wp2;go_ret;rw[HE.out];exact⟨rfl,HO1.out,HG1.out⟩
 ·have HM:Hid (Mid ls ls n i (i+1)):=Mid.start hxi hxt hxb
  have hi1:((i:Int)== -1)=false:=by simp
  have hil:i<ls.length:=(List.getElem?_eq_some_iff.1 hxi).1;clear hxi hxt hxb;go_wp2
  go_loopw [5,6] (fun vi vj wr=>∃(ii jj:Nat) (cur:List Ld),vi=.int .i64 ii/\vj=.int .i64 jj/\ii<jj/\jj<=ls.length/\Hid (Mid ls cur n ii jj/\wr.ownsRow base 131 3 (.slice (some ⟨g,0,none⟩) ls.length cap) ls.length (rowC lC cur)/\w.grownBy wr (some g))) (fun _ j _=>ls.length -(intOf j).toNat)
  case atStart=>exact⟨i,i+1,ls,rfl,by go_num,by omega,by omega,HM.out,HO1.out,HG1.out⟩
  case round=>
   clear HM HO1 HG1 hil;obtain⟨ii,jj,cur,rfl,rfl,hij,hjl,HI⟩:=hrel;by_cases hlt:jj<ls.length
   ·have HG:Hid (cur[jj]?=some ls[jj]):=HI.out.1.at hlt
    have HSk:Hid (ls[jj].til<=n->Mid ls cur n ii (jj+1)):=fun h=>HI.out.1.skip hlt h;have HMv:Hid (n<ls[jj].til->Mid ls (cur.set ii ls[jj]) n (ii+1) (jj+1)):=fun h=>HI.out.1.move hlt h;have hcl:cur.length=ls.length:=HI.out.1.len;generalize ls[jj]=x at *
    have hcc:∀k,k<3->wr.cell? ⟨g,jj *3+k,none⟩=(lC x)[k]?:=fun k hk=>(HI.out.2.1.cellAt (jj *3+k) (by omega)).trans (row_get lC_len HG.out hk);have c0:wr.cell? ⟨g,jj *3,none⟩=some (.int .i64 x.num):=by simpa [lC] using hcc 0 (by decide)
    have c1:wr.cell? ⟨g,jj *3+1,none⟩=some (.string x.sum):=by simpa [lC] using hcc 1 (by decide)
    have c2:wr.cell? ⟨g,jj *3+2,none⟩=some (.int .i64 x.til):=by simpa [lC] using hcc 2 (by decide)
    obtain⟨W,hW⟩:∃W,W=wr.alloc (.cells #[.int .i64 x.num,.string x.sum,.int .i64 x.til] 131):=⟨_,rfl⟩;have bW:Below wr.heap.size wr W:=by rw[hW];exact(Below.refl _ _).alloc (Nat.le_refl _) _
    have zW:CellsAt W wr.heap.size [.int .i64 x.num,.string x.sum,.int .i64 x.til]:=by rw[hW];exact CellsAt.new wr _ _
    have HZ:Hid (CellsAt W wr.heap.size [.int .i64 x.num,.string x.sum,.int .i64 x.til]):=zW;have hgW:w.grownBy W (some g):=grown_trans HI.out.2.2 (grown_below _ bW);have HOW:Hid (W.ownsRow base 131 3 (.slice (some ⟨g,0,none⟩) ls.length cap) ls.length (rowC lC cur)/\w.grownBy W (some g)):=⟨own_below HI.out.2.1 bW,hgW⟩;obtain⟨hb0,hd0⟩:=HC.out W hgW;have hw1:=wait1_any x b d n W hb0 hd0
    have HW:Hid _:=hW;have hjl':(jj:Int)<ls.length:=by omega
    have hrl:wr.heap.size<W.heap.size:=zW.lt;clear hW hcc bW zW hgW hb0 hd0 HI;go_upto_region 8 with fail;rw[←HW.out];clear HW c0 c1 c2;obtain⟨z0,_⟩:=HZ.out 0 _ rfl;obtain⟨z1,_⟩:=HZ.out 1 _ rfl;obtain⟨z2,_⟩:=HZ.out 2 _ rfl;go_wp2_with fail;refine hw1.mono ?_;rintro e w2 ⟨rfl,hb2⟩
    have HO2:Hid (w2.ownsRow base 131 3 (.slice (some ⟨g,0,none⟩) ls.length cap) ls.length (rowC lC cur)/\w.grownBy w2 (some g)):=⟨own_below HOW.out.1 hb2,grown_trans HOW.out.2 (grown_below _ hb2)⟩;have HZ2:=CellsAt.below HZ.out hb2;clear z0 z1 z2 hb2 HOW hw1 HZ;by_cases ht:x.til<=n
    ·have hd:decide (x.til<=n)=true:=by simpa using ht
     have HS:Hid (Mid ls cur n ii (jj+1)):=HSk.out ht;rw[hd];clear hd ht HSk HMv HZ2;go_wp2;exact⟨⟨ii,jj+1,cur,rfl,by go_num,by omega,by omega,HS.out,HO2.out.1,HO2.out.2⟩,by simp[intOf];omega⟩
    ·have hd:decide (x.til<=n)=false:=by simpa using ht
     have HS:Hid (Mid ls (cur.set ii x) n (ii+1) (jj+1)):=HMv.out (Int.not_le.1 ht);have hil:ii<cur.length:=by omega
     have hset:=own_set3 HO2.out.1 hil x;have hfr:∀o,w2.frozen? ⟨g,o,none⟩=false:=fun o=>HO2.out.1.frozenAt o;have hsm:∀k,k<3->∃v,w2.cell? ⟨g,ii *3+k,none⟩=some v:=fun k hk=>⟨_,(HO2.out.1.cellAt (ii *3+k) (by omega)).trans (List.getElem?_eq_getElem (by rw[row_len lC_len];omega))⟩;obtain⟨v0,s0⟩:=hsm 0 (by decide);obtain⟨v1,s1⟩:=hsm 1 (by decide);obtain⟨v2,s2⟩:=hsm 2 (by decide)
     rw[Nat.add_zero] at s0;have q0:=hfr (ii *3);have q1:=hfr (ii *3+1);have q2:=hfr (ii *3+2);have HFin:Hid _:=And.intro hset (grown_trans HO2.out.2 (grown_trans (grown_trans (rd_grown w2 g (ii *3) (.int .i64 x.num)) (rd_grown _ g (ii *3+1) (.string x.sum))) (rd_grown _ g (ii *3+2) (.int .i64 x.til))));obtain⟨z0,_⟩:=HZ2 0 _ rfl;obtain⟨z1,_⟩:=HZ2 1 _ rfl;obtain⟨z2,_⟩:=HZ2 2 _ rfl
     have hil':(ii:Int)<ls.length:=by omega
     rw[hd];clear hd ht HSk HMv HZ2 hset hsm hfr;go_wp2;exact⟨⟨ii+1,jj+1,cur.set ii x,by go_num,by go_num,by omega,by omega,HS.out,HFin.out.1,HFin.out.2⟩,by simp[intOf];omega⟩
   ·obtain rfl:jj=ls.length:=by omega
    obtain⟨hk1,hk2⟩:=HI.out.1.done;have hcl:cur.length=ls.length:=HI.out.1.len;have HK:Hid ((waitL ls n).length=ii/\cur.take ii=waitL ls n):=⟨hk2,hk1⟩;have hO:=HI.out.2.1;have HG:Hid (w.grownBy wr (some g)):=HI.out.2.2;have hcut:wr.ownsRow base 131 3 (.slice (some ⟨g,0,none⟩) ii cap) ii (rowC lC (waitL ls n)):=by
     rw[←hk1];have hO':=hO;rw[←hcl] at hO';exact own_cutR lC_len hO' ii (by omega)
    have hf1:∀j,j<(ls.length -ii) *3->(wr.cell? ⟨g,ii *3+j,none⟩).isSome=true/\wr.frozen? ⟨g,ii *3+j,none⟩=false:=fun j hj=>by
     refine⟨?_,hO.frozenAt _⟩;rw[hO.cellAt (ii *3+j) (by omega),List.getElem?_eq_getElem (by rw[row_len lC_len];omega)];rfl
    have hclr:=run_clear_leases wr 0 g (ii *3) (ls.length -ii) (cap -ii) (by omega) (fun j hj=>(hf1 j hj).1) (fun j hj=>(hf1 j hj).2);have HCut:Hid _:=hcut;have e1:ii<=ls.length:=by omega
    have e2:¬cap=ii:=by omega
    have e3:ii<=cap:=by omega
    clear hk1 hk2 hO hcut hf1 HI;go_wp2;go_ret;rw[HK.out.1];exact⟨rfl,own_past _ _ _ HCut.out (Nat.le_refl _),grown_trans HG.out (grown_setC g _ _ _)⟩
end Go.Proofs.YthkmpihfhkmaoaaGreatDoor
