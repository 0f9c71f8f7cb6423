import Derived.Test.YtpekbmegopfhfaaGreatDoorY07
set_option maxRecDepth 100000
set_option maxHeartbeats 16000000
namespace Go.Proofs.YtpekbmegopfhfaaGreatDoor
open Go.ChangeShapes Go.WideShapes Go.ChangeAt Go.RowKit _root_.Go.Proofs.Tryz
def waitL (ls:List Ld) (n:Int):List Ld:=ls.filter (fun x=> !decide (x.til<=n))
theorem wait1_any (x:Ld) (b d:Nat) (n:Int) (w:World) (hc:w.cell? ⟨b,0,none⟩=some (.pointer (some ⟨d,0,none⟩))) (hn:w.cell? ⟨d,2,none⟩=some (.int .i64 n)):
 Calls prog 209 #[.agg #[.int .i64 x.num,.string x.sum,.int .i64 x.til],.pointer (some ⟨b,0,none⟩)] w fun e w'=>e=.returned (.bool (decide (x.til<=n)))/\Below w.heap.size w w':=by
 obtain⟨W,hW⟩:∃W,W=w.alloc (.cells #[.int .i64 x.num,.string x.sum,.int .i64 x.til] 137):=⟨_,rfl⟩;have hB:=(al1 hW).1;have c0:W.cell? ⟨w.heap.size,2,none⟩=some (.int .i64 x.til):=by rw[hW];simp[go_sem]
 have c1:=(hB.cell (p:=⟨b,0,none⟩) (World.block_lt_of_cell? w _ hc)).trans hc;have c2:=(hB.cell (p:=⟨d,2,none⟩) (World.block_lt_of_cell? w _ hn)).trans hn;have hd:b<W.heap.size/\d<W.heap.size:=⟨World.block_lt_of_cell? W _ c1,World.block_lt_of_cell? W _ c2⟩;have HW:Hid _:=hW;clear hW hc hn;go_enter func209,ntmps209;go_upto_region 1 with fail;rw[←HW.out];clear HW
 have HB:Hid (Below w.heap.size w W):=hB;clear hB;cases hbb:decide (x.til<=n)
 all_goals
  have HBB:Hid _:=hbb;go_region_with fail
  all_goals
   clear c0 c1 c2;go_wp2;go_ret;exact⟨by rw[HBB.out];rfl,HB.out.drew⟩
def FirstAt (ls:List Ld) (n r:Int):Prop:=(r= -1/\∀x∈ls,n<x.til)∨∃(i:Nat) (x:Ld),r=i/\ls[i]?=some x/\x.til<=n/\∀j y,j<i->ls[j]?=some y->n<y.til
theorem indexWait_any (a:Option Addr) (cap b d:Nat) (n:Int) (ls:List Ld) (w:World) (hrow:LRow w w.heap.size a ls) (hl:ls.length<=1048576) (hc:w.cell? ⟨b,0,none⟩=some (.pointer (some ⟨d,0,none⟩))) (hn:w.cell? ⟨d,2,none⟩=some (.int .i64 n)):
 Calls prog 236 #[.slice a ls.length cap,.func (.func 209) #[] #[.pointer (some ⟨b,0,none⟩)]] w fun e w'=>∃r:Int,e=.returned (.int .i64 r)/\FirstAt ls n r/\Below w.heap.size w w':=by
 have hbl:b<w.heap.size:=World.block_lt_of_cell? w _ hc;have hdl:d<w.heap.size:=World.block_lt_of_cell? w _ hn;go_enter func236,ntmps236;go_wp2
 go_loopw [8] (fun i wr=>∃k:Nat,k<=ls.length/\i=.int .i64 k/\Hid (∀j x,j<k->ls[j]?=some x->n<x.til)/\Below w.heap.size w wr) (fun i _=>ls.length -(intOf i).toNat)
 case atStart=>exact⟨0,Nat.zero_le _,rfl,(fun j x h=>by omega),Below.refl _ _⟩
 case round=>
  obtain⟨k,hk,rfl,hall,hbel⟩:=hrel;have hzr:=hbel.size;by_cases hlt:k<ls.length
  ·obtain⟨b',off,ha,hb,hc'⟩:=(hrow.below hbel).at hlt
   subst ha;have hg:Hid (ls[k]?=some ls[k]):=List.getElem?_eq_getElem hlt;obtain⟨c0,c1,c2⟩:=hc' k _ hg.out;have hcr:=(hbel.cell (p:=⟨b,0,none⟩) hbl).trans hc;have hnr:=(hbel.cell (p:=⟨d,2,none⟩) hdl).trans hn;clear hc' hrow;generalize ls[k]=x at *
   go_wp2_with fail;refine(wait1_any x b d n wr hcr hnr).mono ?_;rintro e w1 ⟨rfl,hb1⟩;have hB1:=hbel.trans (hb1.mono hzr);by_cases h:x.til<=n
   ·have hd:decide (x.til<=n)=true:=by simpa using h
    have HH:Hid (x.til<=n):=h;rw[hd];clear h hd;go_wp2;go_ret;exact⟨_,rfl,.inr ⟨k,x,rfl,hg.out,HH.out,hall.out⟩,hB1⟩
   ·have HA:Hid (∀j y,j<k+1->ls[j]?=some y->n<y.til):=by
     intro j y hj hy;rcases Nat.lt_or_ge j k with h'|h'
     ·exact hall.out j y h' hy
     ·obtain rfl:j=k:=by omega
      rw[hg.out] at hy;cases hy;exact Int.not_le.1 h
    have hd:decide (x.til<=n)=false:=by simpa using h
    rw[hd];clear h hd;go_wp2;exact⟨⟨k+1,by omega,by go_num,HA,hB1⟩,by simp[intOf];omega⟩
  ·go_wp2
   go_ret;refine⟨_,rfl,.inl ⟨rfl,fun x hx=> ?_⟩,hbel⟩;obtain⟨j,hj,rfl⟩:=List.getElem_of_mem hx;exact hall.out j _ (by omega) (List.getElem?_eq_getElem hj)
def refsN (ks:List Kd):Nat:=(ks.map (fun k=>k.refs.length)).sum
theorem refsN_snoc {ks:List Kd} {k:Nat} {x:Kd} (h:ks[k]?=some x):refsN (ks.take (k+1))=refsN (ks.take k)+x.refs.length:=by
 unfold refsN;rw[List.take_add_one,h];simp
theorem refsN_take (ks:List Kd) (k:Nat):refsN (ks.take k)<=refsN ks:=by
 have h:refsN ks=refsN (ks.take k)+refsN (ks.drop k):=by
  unfold refsN;rw[←List.sum_append,←List.map_append,List.take_append_drop]
 omega
def Alive (w w':World):Prop:=∀b o,(w.cell? ⟨b,o,none⟩).isSome=true->(w'.cell? ⟨b,o,none⟩).isSome=true/\(w.frozen? ⟨b,o,none⟩=false->w'.frozen? ⟨b,o,none⟩=false)
theorem Alive.setCell (w:World) (g p:Nat) (v:Value):Alive w (w.setCell ⟨g,p,none⟩ v):=fun b o hs=>by
 refine⟨?_,fun h=>by simpa [go_sem] using h⟩;by_cases e:(⟨b,o,none⟩:Addr)=⟨g,p,none⟩
 ·rw[←e,World.cell?_setCell_same' _ _ _ hs]
  rfl
 ·rw[World.cell?_setCell_other _ _ _ _ (fun e'=>e e'.symm)]
  exact hs
def Wr (w:World) (q n:Nat):Prop:=∀j,j<n->(w.cell? ⟨q,j,none⟩).isSome=true/\w.frozen? ⟨q,j,none⟩=false
theorem grown_set (w:World) (g p:Nat) (v:Value):w.grownBy (w.setCell ⟨g,p,none⟩ v) (some g):=
 ⟨rfl,rfl,rfl,by simp,fun i _ hi=>Below.heap_setCell _ _ _ _ (fun e=>hi (by rw[e]))⟩
theorem markText_at (K:Nat) (z:Int) (w:World) (hz:z=K) (hk:1<=K) (hk2:K<=1000000000):
 Calls prog 49 #[.int .i64 z] w fun e w'=>e=.returned (.string (mkT K))/\Below w.heap.size w w':=by
 subst hz;exact markText_any K w hk hk2
def MSt (w wr:World) (g n:Nat):Prop:=Wr wr g n/\w.grownBy wr (some g)/\Alive w wr
structure KSt (w wr:World) (lo N g:Nat) (ks:List Kd):Prop where
 row:Wr wr g (ks.length *4)
 bel:Below lo w wr
 al:Alive w wr
 far:∀k,N<=k->k<w.heap.size->wr.heap[k]?=w.heap[k]?
 refs:∀i x,ks[i]?=some x->∃q c,wr.cell? ⟨g,i *4+3,none⟩=some (.slice (some ⟨q,0,none⟩) x.refs.length c)/\g<q/\q<N/\Wr wr q x.refs.length
def markX (k:Nat) (x:Kd):Kd:=⟨mkT k,(k:Int)+1,mkT (k+1+1),marks (k+1+1+1) x.refs.length⟩
def markK:Nat->List Kd->List Kd
 |_,[]=>[]
 |k,x::xs=>markX k x::markK (k+3+x.refs.length) xs
theorem markK_length:∀(k:Nat) (xs:List Kd),(markK k xs).length=xs.length
 |_,[]=>rfl
 |k,x::xs=>by simp[markK,markK_length _ xs]
theorem refsN_cons (x:Kd) (xs:List Kd):refsN (x::xs)=x.refs.length+refsN xs:=by simp[refsN]
theorem markK_append:∀(k:Nat) (xs ys:List Kd),markK k (xs++ys)=markK k xs++markK (k+xs.length *3+refsN xs) ys
 |k,[],ys=>by simp[markK,refsN]
 |k,x::xs,ys=>by
  simp only[List.cons_append,markK,markK_append _ xs ys];congr 3;rw[refsN_cons,List.length_cons];omega
theorem markK_step {k j:Nat} {ks:List Kd} {x:Kd} (hx:ks[j]?=some x):markK k (ks.take (j+1))++ks.drop (j+1)=(markK k (ks.take j)++ks.drop j).set j (markX (k+j *3+refsN (ks.take j)) x):=by
 obtain⟨hlt,rfl⟩:=List.getElem?_eq_some_iff.1 hx;have hl:(markK k (ks.take j)).length=j:=by rw[markK_length,List.length_take];omega
 have hl2:(ks.take j).length=j:=by rw[List.length_take];omega
 rw[List.take_succ_eq_append_getElem hlt,markK_append,hl2,List.set_append_right _ _ (by omega),hl,Nat.sub_self,List.drop_eq_getElem_cons hlt,List.set_cons_zero,List.append_assoc];rfl
structure KAns (w:World) (base:Nat) (T:Value) (rs:List Value) (ks:List Kd):Prop where
 len:rs.length=ks.length
 things:w.ownsRow base 114 4 T ks.length (rowC kC (ks.zip rs))
 refs:∀(i:Nat) (k:Kd) (r:Value),ks[i]?=some k->rs[i]?=some r->w.ownsRow base 9 1 r k.refs.length (k.refs.map Value.string)
 nd:(T.ownBlock.toList++rs.filterMap Value.ownBlock).Nodup
theorem nd_idx {f:Value->Option Nat}:∀{rs:List Value},(rs.filterMap f).Nodup->∀{i j:Nat} {a b:Value} {g:Nat},rs[i]?=some a->rs[j]?=some b->f a=some g->f b=some g->i=j
 |[],_,i,_,_,_,_,h,_,_,_=>by simp at h
 |r::rs,h,0,0,_,_,_,_,_,_,_=>rfl
 |r::rs,h,0,j+1,a,b,g,ha,hb,hfa,hfb=>by
  simp at ha hb;subst ha;rw[List.filterMap_cons_some hfa] at h;exact absurd (List.mem_filterMap.2 ⟨b,List.mem_of_getElem? hb,hfb⟩) (List.nodup_cons.1 h).1
 |r::rs,h,i+1,0,a,b,g,ha,hb,hfa,hfb=>by
  simp at ha hb;subst hb;rw[List.filterMap_cons_some hfb] at h;exact absurd (List.mem_filterMap.2 ⟨a,List.mem_of_getElem? ha,hfa⟩) (List.nodup_cons.1 h).1
 |r::rs,h,i+1,j+1,a,b,g,ha,hb,hfa,hfb=>by
  simp at ha hb;have:(rs.filterMap f).Nodup:=by
   cases hr:f r with
   |none=>rw[List.filterMap_cons_none hr] at h;exact h
   |some q=>rw[List.filterMap_cons_some hr] at h;exact(List.nodup_cons.1 h).2
  rw[nd_idx this ha hb hfa hfb]
theorem row_set3:∀{zs:List (Kd×Value)} {i:Nat} {x:Kd} {r:Value},zs[i]?=some (x,r)->∀y:Kd,(((rowC kC zs).set (i *4) (.string y.sum)).set (i *4+1) (.int .i64 y.born)).set (i *4+2) (.string y.text)=rowC kC (zs.set i (y,r))
 |[],i,_,_,h,_=>by simp at h
 |z::zs,0,x,r,h,y=>by
  simp at h;subst h;simp[rowC,kC]
 |z::zs,i+1,x,r,h,y=>by
  have h':zs[i]?=some (x,r):=by simpa using h
  have ih:=row_set3 h' y;have e:rowC kC (z::zs)=kC z++rowC kC zs:=by simp[rowC]
  have e2:rowC kC ((z::zs).set (i+1) (y,r))=kC z++rowC kC (zs.set i (y,r)):=by simp[rowC]
  rw[e,e2,←ih,show(i+1) *4=(kC z).length+i *4 by rw[kC_len4];omega];rw[List.set_append_right _ _ (by omega),Nat.add_sub_cancel_left,show(kC z).length+i *4+1=(kC z).length+(i *4+1) by omega,List.set_append_right _ _ (by omega),Nat.add_sub_cancel_left,show(kC z).length+i *4+2=(kC z).length+(i *4+2) by omega,List.set_append_right _ _ (by omega),Nat.add_sub_cancel_left]
theorem zip_set {ks:List Kd} {rs:List Value} {j:Nat} {y:Kd} {r:Value} (hr:rs[j]?=some r):(ks.set j y).zip rs=(ks.zip rs).set j (y,r):=by
 apply List.ext_getElem?;intro i;by_cases hij:i=j
 ·subst hij
  rcases Nat.lt_or_ge i ks.length with h|h
  ·have hr':=(List.getElem?_eq_some_iff.1 hr).1
   rw[(List.getElem?_zip_eq_some (z:=(y,r))).2 ⟨List.getElem?_set_self h,hr⟩,List.getElem?_set_self (by rw[List.length_zip];omega)]
  ·rw[List.getElem?_eq_none (by rw[List.length_zip,List.length_set];omega),List.getElem?_eq_none (by rw[List.length_set,List.length_zip];omega)]
 ·rw[List.getElem?_set_ne (fun e=>hij e.symm),List.zip_eq_zipWith,List.zip_eq_zipWith,List.getElem?_zipWith,List.getElem?_zipWith,List.getElem?_set_ne (fun e=>hij e.symm)]
theorem markKeptX (base g cap k:Nat) (rs:List Value) (ks:List Kd) (w:World) (h:KAns w base (.slice (some ⟨g,0,none⟩) ks.length cap) rs ks) (hk:1<=k) (hkn:k+ks.length *3+refsN ks<=100000000):
 Calls prog 102 #[.slice (some ⟨g,0,none⟩) ks.length cap,.int .i64 k] w fun e w'=>e=.returned (.int .i64 (k+ks.length *3+refsN ks:Nat))/\KAns w' base (.slice (some ⟨g,0,none⟩) ks.length cap) rs (markK k ks)/\Tn (g::rs.filterMap Value.ownBlock) w w':=by
 have H0:Hid _:=h;clear h;go_enter func102,ntmps102;go_wp2
 go_loopw [1,5] (fun v i wr=>∃(j K:Nat),j<=ks.length/\i=.int .i64 j/\v=.int .i64 K/\Hid (K=k+j *3+refsN (ks.take j))/\Hid (KAns wr base (.slice (some ⟨g,0,none⟩) ks.length cap) rs (markK k (ks.take j)++ks.drop j)/\Tn (g::rs.filterMap Value.ownBlock) w wr)) (fun _ i _=>ks.length -(intOf i).toNat)
 case atStart=>exact⟨0,k,Nat.zero_le _,rfl,rfl,(show k=_ by simp[refsN]),⟨by simpa [markK] using H0.out,Tn.of (Below.refl _ _)⟩⟩
 case round=>
  clear H0;obtain⟨j,K,hj,rfl,rfl,HK,HM⟩:=hrel;have hrt:=refsN_take ks j;by_cases hlt:j<ks.length
  ·have hlt':(j:Int)<ks.length:=by omega
   have hg:ks[j]?=some ks[j]:=List.getElem?_eq_getElem hlt;have hrn:=refsN_snoc hg;have hrt2:=refsN_take ks (j+1);have HS:Hid _:=markK_step (k:=k) hg;have hLj:(markK k (ks.take j)++ks.drop j)[j]?=some ks[j]:=by
    rw[List.getElem?_append_right (by rw[markK_length,List.length_take];omega),markK_length,List.length_take,List.getElem?_drop];rw[show j+(j -min j ks.length)=j by omega];exact hg
   have hll:(markK k (ks.take j)++ks.drop j).length=ks.length:=by
    rw[List.length_append,markK_length,List.length_take,List.length_drop];omega
   generalize hLe:markK k (ks.take j)++ks.drop j=Lj at *
   have hKe:=HK.out;generalize ks[j]=x at *
   obtain⟨M1,M2⟩:=HM.out;have hrl:rs.length=ks.length:=M1.len.trans hll;obtain⟨r,hrj⟩:∃r,rs[j]?=some r:=⟨rs[j]'(by omega),List.getElem?_eq_getElem (by omega)⟩;have hor:=M1.refs j x r hLj hrj;obtain⟨ra,rc,rfl⟩:=own_val hor;have hth:=M1.things;rw[hll] at hth
   have hzj:(Lj.zip rs)[j]?=some (x,Value.slice ra x.refs.length rc):=(List.getElem?_zip_eq_some (z:=(x,Value.slice ra x.refs.length rc))).2 ⟨hLj,hrj⟩;have hxl:=hth.1;have hgr:∀b,(Value.slice ra x.refs.length rc).ownBlock=some b->b≠g:=fun b hb e=>by
    have:=M1.nd;simp only[Value.ownBlock,Option.toList_some,List.cons_append,List.nil_append,List.nodup_cons] at this;exact this.1 (e▸List.mem_filterMap.2 ⟨_,List.mem_of_getElem? hrj,hb⟩)
   have HTh:Hid _:=hth;have HOr:Hid _:=hor;have HM1:Hid _:=And.intro M1 M2;have HZ:Hid _:=hzj;have hK1:1<=K:=by omega
   have hK2:K+3+x.refs.length<=100000000:=by omega
   have HX:Hid (j *4+4<=(rowC kC (Lj.zip rs)).length):=by show _<=_;omega
   have HLe:Hid _:=hLe;have HKe:Hid _:=hKe;have HN:Hid _:=And.intro hrn (And.intro hrt2 hll);have HR:Hid _:=And.intro hrj hrl;clear M1 M2 hth hor hg HM hzj hLj hLe hKe hrn hrt2 hll hrj hrl hxl hrt;go_wp2_with fail;refine(markText_at K _ _ rfl (by omega) (by omega)).mono ?_;rintro e w2 ⟨rfl,hb2⟩;have h2:=own_below HTh.out hb2;have hxl:=HX.out
   have c2:∃v,w2.cell? ⟨g,j *4,none⟩=some v:=⟨_,(h2.cellAt (j *4) (by omega)).trans (List.getElem?_eq_getElem (by omega))⟩;obtain⟨v2,c2⟩:=c2;have c3:∃v,w2.cell? ⟨g,j *4+1,none⟩=some v:=⟨_,(h2.cellAt (j *4+1) (by omega)).trans (List.getElem?_eq_getElem (by omega))⟩;obtain⟨v3,c3⟩:=c3;have ff:=h2.frozenAt;have f2:=ff (j *4);have f3:=ff (j *4+1)
   have h3:=((h2.stored (j *4) (.string (mkT K))).1.stored (j *4+1) (.int .i64 ((K:Int)+1))).1;have HO3:Hid _:=own_set (own_set (own_below HOr.out hb2) hgr (j *4) (.string (mkT K))) hgr (j *4+1) (.int .i64 ((K:Int)+1))
   have T3:Hid (Tn [g] wr ((w2.setCell ⟨g,j *4,none⟩ (.string (mkT K))).setCell ⟨g,j *4+1,none⟩ (.int .i64 ((K:Int)+1)))):=((Tn.of hb2).trans (Tn.set w2 g _ _ (by simp))).trans (Tn.set _ g _ _ (by simp));have H3:Hid _:=h3;clear h2 h3 hb2 ff hxl;go_wp2_with fail;refine(markText_at (K+1+1) _ _ (by omega) (by omega) (by omega)).mono ?_;rintro e w4 ⟨rfl,hb4⟩;have h4:=own_below H3.out hb4
   have hxl:=HX.out;have hx4:j *4+4<=((((rowC kC (Lj.zip rs)).set (j *4) (.string (mkT K))).set (j *4+1) (.int .i64 ((K:Int)+1)))).length:=by simpa using hxl
   have c4:∃v,w4.cell? ⟨g,j *4+2,none⟩=some v:=⟨_,(h4.cellAt (j *4+2) (by omega)).trans (List.getElem?_eq_getElem (by omega))⟩;obtain⟨v4,c4⟩:=c4;have f4:=h4.frozenAt (j *4+2);have c5:w4.cell? ⟨g,j *4+3,none⟩=some (.slice ra x.refs.length rc):=by
    rw[h4.cellAt (j *4+3) (by omega),List.getElem?_set_ne (by omega),List.getElem?_set_ne (by omega)];exact row_get kC_len4 HZ.out (show 3<4 by decide)
   have h5:=(h4.stored (j *4+2) (.string (mkT (K+1+1)))).1;rw[row_set3 HZ.out ⟨mkT K,(K:Int)+1,mkT (K+1+1),marks (K+1+1+1) x.refs.length⟩] at h5;have HO5:Hid _:=own_set (own_below HO3.out hb4) hgr (j *4+2) (.string (mkT (K+1+1)));have T5:Hid (Tn [g] wr (w4.setCell ⟨g,j *4+2,none⟩ (.string (mkT (K+1+1))))):=(T3.out.trans (Tn.of hb4)).trans (Tn.set w4 g _ _ (by simp));have H5:Hid _:=h5
   clear h4 h5 hb4 c2 f2 c3 f3 HO3 T3 H3 hxl hx4;have hcall:=markS_any ra x.refs.length rc (K+1+1+1) base _ (w4.setCell ⟨g,j *4+2,none⟩ (.string (mkT (K+1+1)))) HO5.out (by omega) (by omega);rw[show((K+1+1+1:Nat):Int)=(K:Int)+1+1+1 from by omega] at hcall;have HC:Hid _:=hcall;clear hcall;go_wp2_with fail;refine Calls.mono HC.out ?_;rintro e w6 ⟨rfl,ho6,hg6⟩;have HF:Hid _:=And.intro ho6 hg6
   clear ho6 hg6 HC c4 f4 c5;go_wp2;obtain⟨hrn,hrt2,hll⟩:=HN.out;obtain⟨hrj,hrl⟩:=HR.out;have hKe:=HKe.out;obtain⟨M1,M2⟩:=HM1.out;obtain⟨ho6,hg6⟩:=HF.out;have hnd:=M1.nd;simp only[Value.ownBlock,Option.toList_some,List.cons_append,List.nil_append,List.nodup_cons] at hnd
   have hst:∀b,b<wr.heap.size->b≠g->(Value.slice ra x.refs.length rc).ownBlock≠some b->w6.heap[b]?=wr.heap[b]?:=fun b h1 h2 h3=>(hg6.block b (Nat.lt_of_lt_of_le h1 T5.out.size) (fun e=>h3 e.symm)).trans (T5.out.block b h1 (by simpa using h2));have hTg:Tn (g::rs.filterMap Value.ownBlock) wr w6:=by
    refine⟨hg6.os.trans T5.out.os,hg6.tape.trans T5.out.tape,hg6.output.trans T5.out.output,Nat.le_trans T5.out.size hg6.size,fun b h1 h2=> ?_⟩;refine hst b h1 (fun e=>h2 (by simp[e])) (fun e=>h2 (List.mem_cons_of_mem _ (List.mem_filterMap.2 ⟨_,List.mem_of_getElem? hrj,e⟩)))
   refine⟨⟨j+1,K+1+1+1+x.refs.length,by omega,by go_num,by go_num,?_,?_,M2.trans hTg⟩,by simp[intOf];omega⟩
   ·show _=_
    omega
   ·rw[HS.out,←hKe]
    refine⟨by rw[List.length_set];omega,?_,?_,M1.nd⟩
    ·rw[List.length_set,hll,zip_set hrj]
     exact World.ownsRow.kept H5.out hg6 (.inr (fun e=>hgr g e.symm rfl))
    ·intro i y r' hy hr'
     by_cases hij:i=j
     ·subst hij
      rw[hrj] at hr';cases hr';rw[List.getElem?_set_self (by omega)] at hy;cases hy;show w6.ownsRow base 9 1 _ (marks (K+1+1+1) x.refs.length).length _;rw[marks_length];exact ho6
     ·rw[List.getElem?_set_ne (fun e=>hij e.symm)] at hy
      refine own_same (M1.refs i y r' hy hr') (fun b hb=>hst b (own_lt (M1.refs i y r' hy hr') hb).2 (fun e=>hnd.1 (e▸List.mem_filterMap.2 ⟨_,List.mem_of_getElem? hr',hb⟩)) (fun e=>hij (nd_idx hnd.2 hr' hrj hb e)))
  ·obtain rfl:j=ks.length:=by omega
   have hKe:=HK.out;have hMe:=HM.out;rw[List.take_of_length_le (Nat.le_refl _)] at hKe hMe;rw[List.drop_of_length_le (Nat.le_refl _),List.append_nil] at hMe;have HM':Hid _:=hMe;clear hMe HM;subst hKe;go_wp2;go_ret;exact⟨rfl,HM'.out.1,HM'.out.2⟩
theorem markK_get {k j:Nat} {ks:List Kd} {x:Kd} (hx:ks[j]?=some x):(markK k ks)[j]?=some (markX (k+j *3+refsN (ks.take j)) x):=by
 obtain⟨hlt,rfl⟩:=List.getElem?_eq_some_iff.1 hx;have h1:ks=ks.take j++ks.drop j:=(List.take_append_drop j ks).symm;have hl:(markK k (ks.take j)).length=j:=by rw[markK_length,List.length_take];omega
 have hl2:(ks.take j).length=j:=by rw[List.length_take];omega
 conv=>lhs;rw[h1,markK_append,hl2,List.drop_eq_getElem_cons hlt]
 rw[List.getElem?_append_right (by omega),hl,Nat.sub_self];rfl
theorem heldKeptX (base g cap k:Nat) (rs:List Value) (ks:List Kd) (w:World) (h:KAns w base (.slice (some ⟨g,0,none⟩) ks.length cap) rs (markK k ks)) (hk:1<=k) (hkn:k+ks.length *3+refsN ks<=100000000):
 Calls prog 105 #[.slice (some ⟨g,0,none⟩) ks.length cap,.int .i64 k] w fun e w'=>e=.returned (.int .i64 (k+ks.length *3+refsN ks:Nat))/\Below w.heap.size w w':=by
 have H0:Hid _:=h;have hgl:g<w.heap.size:=(own_lt h.things rfl).2;clear h;go_enter func105,ntmps105;go_wp2
 go_loopw [1,5] (fun v i wr=>∃(j K:Nat),j<=ks.length/\i=.int .i64 j/\v=.int .i64 K/\Hid (K=k+j *3+refsN (ks.take j))/\Below w.heap.size w wr) (fun _ i _=>ks.length -(intOf i).toNat)
 case atStart=>exact⟨0,k,Nat.zero_le _,rfl,rfl,(show k=_ by simp[refsN]),Below.refl _ _⟩
 case round=>
  obtain⟨j,K,hj,rfl,rfl,HK,hbel⟩:=hrel;have hrt:=refsN_take ks j;have hzr:=hbel.size;by_cases hlt:j<ks.length
  ·have hlt':(j:Int)<ks.length:=by omega
   have hg:ks[j]?=some ks[j]:=List.getElem?_eq_getElem hlt;have hrn:=refsN_snoc hg;have hrt2:=refsN_take ks (j+1);have hLj:=markK_get (k:=k) hg;have hKe:=HK.out;rw[←hKe] at hLj;generalize ks[j]=x at *
   have hrl:rs.length=ks.length:=H0.out.len.trans (markK_length k ks);obtain⟨r,hrj⟩:∃r,rs[j]?=some r:=⟨rs[j]'(by omega),List.getElem?_eq_getElem (by omega)⟩;have hor:=H0.out.refs j _ r hLj hrj;have hml:(markX K x).refs.length=x.refs.length:=marks_length _ _;rw[hml] at hor;obtain⟨ra,rc,rfl⟩:=own_val hor;have hth:=H0.out.things;rw[markK_length] at hth
   have hzj:((markK k ks).zip rs)[j]?=some (markX K x,Value.slice ra x.refs.length rc):=(List.getElem?_zip_eq_some (z:=(markX K x,Value.slice ra x.refs.length rc))).2 ⟨hLj,hrj⟩;have hxl:=hth.1;have c0:w.cell? ⟨g,j *4,none⟩=some (.string (mkT K)):=(hth.cellAt (j *4) (by omega)).trans (row_get kC_len4 hzj (show 0<4 by decide))
   have c1:w.cell? ⟨g,j *4+1,none⟩=some (.int .i64 ((K:Int)+1)):=(hth.cellAt (j *4+1) (by omega)).trans (row_get kC_len4 hzj (show 1<4 by decide));have c2:w.cell? ⟨g,j *4+2,none⟩=some (.string (mkT (K+1+1))):=(hth.cellAt (j *4+2) (by omega)).trans (row_get kC_len4 hzj (show 2<4 by decide))
   have c3:w.cell? ⟨g,j *4+3,none⟩=some (.slice ra x.refs.length rc):=(hth.cellAt (j *4+3) (by omega)).trans (row_get kC_len4 hzj (show 3<4 by decide));have HR:Hid (SRow w w.heap.size ra (marks (K+1+1+1) x.refs.length)):=by
    have h1:w.ownsRow base 9 1 (.slice ra (marks (K+1+1+1) x.refs.length).length rc) (marks (K+1+1+1) x.refs.length).length ((marks (K+1+1+1) x.refs.length).map Value.string):=by
     rw[marks_length];exact hor
    rcases h1.2 with⟨hv,h0⟩|⟨q,cap',cur,hv,_⟩
    ·exact .inl (List.eq_nil_of_length_eq_zero h0)
    ·cases hv
     exact SRow.own h1
   have hK1:1<=K:=by omega
   have hK2:K+3+x.refs.length<=100000000:=by omega
   have HN:Hid _:=And.intro hrn hKe;clear hth hor hg hzj hLj hKe hrn hrt2 hrj hrl hxl hrt hml;have y0:=(hbel.cell (p:=⟨g,j *4,none⟩) hgl).trans c0;have q0:=Cls.cell y0 (show g<wr.heap.size by omega);have hne:=Cls.ne wr;have HC0:Hid (∀m:Cls wr,Calls prog 49 #[.int .i64 K] m.w fun e w'=>e=.returned (.string (mkT K))/\Below m.w.heap.size m.w w'):=fun m=>markText_at K _ m.w rfl (by omega) (by omega)
   have HC:Hid _:=And.intro c1 (And.intro c2 c3);clear c0 c1 c2 c3 y0;go_wp2;refine region_cls_lit (by kernel_rfl) (by kernel_rfl) ?_
   repeat (go_big_quiet_step (exact Cls.calls (HC0.out _)))
   refine wpQuiet_nil ?_;intro m;have bm:Below w.heap.size w m.w:=hbel.trans (m.h.mono hzr);have y1:=(bm.cell (p:=⟨g,j *4+1,none⟩) hgl).trans HC.out.1;have y2:=(bm.cell (p:=⟨g,j *4+2,none⟩) hgl).trans HC.out.2.1;have y3:=(bm.cell (p:=⟨g,j *4+3,none⟩) hgl).trans HC.out.2.2;have hzm:=bm.size;generalize m.w=wm at *
   clear q0 hne HC0 m;have q2:=Cls.cell y2 (show g<wm.heap.size by omega);have hne:=Cls.ne wm;have HC2:Hid (∀m:Cls wm,Calls prog 49 #[.int .i64 ((K:Int)+1+1)] m.w fun e w'=>e=.returned (.string (mkT (K+1+1)))/\Below m.w.heap.size m.w w'):=fun m=>markText_at (K+1+1) _ m.w (by omega) (by omega) (by omega);have HY3:Hid _:=y3;clear y2 y3;go_wp2
   refine region_cls_lit (by kernel_rfl) (by kernel_rfl) ?_
   repeat (go_big_quiet_step (exact Cls.calls (HC2.out _)))
   refine wpQuiet_nil ?_;intro m2;have bm2:Below w.heap.size w m2.w:=bm.trans (m2.h.mono hzm);have z3:=(m2.h.cell (p:=⟨g,j *4+3,none⟩) (show g<wm.heap.size by omega)).trans HY3.out;have hcall:=heldS_any ra x.refs.length rc (K+1+1+1) w.heap.size m2.w (SRow.below HR.out bm2) bm2.size (by omega) (by omega);rw[show((K+1+1+1:Nat):Int)=(K:Int)+1+1+1 from by omega] at hcall;have HL:Hid _:=hcall
   have hz2:=bm2.size;generalize m2.w=w2 at *
   clear q2 hne HC2 m2 hcall y1 HY3;go_wp2_with fail;refine Calls.mono HL.out ?_;rintro e w3 ⟨rfl,hb3⟩;clear z3 HL;go_wp2;exact⟨⟨j+1,K+1+1+1+x.refs.length,by omega,by go_num,by go_num,(by have:=HN.out;show _=_;omega),bm2.trans (hb3.mono hz2)⟩,by simp[intOf];omega⟩
  ·obtain rfl:j=ks.length:=by omega
   have hKe:=HK.out;rw[List.take_of_length_le (Nat.le_refl _)] at hKe;subst hKe;go_wp2;go_ret;exact⟨rfl,hbel⟩
def markP (k:Nat) (ps:List Pd):List Pd:=(List.range ps.length).map fun i=>⟨mkT (k+i *2),mkT (k+i *2+1)⟩
def markL (k:Nat) (ls:List Ld):List Ld:=(List.range ls.length).map fun(i:Nat)=>⟨(k:Int)+(i:Int) *3,mkT (k+i *3+1),(k:Int)+(i:Int) *3+1+1⟩
theorem markP_length (k:Nat) (ps:List Pd):(markP k ps).length=ps.length:=by simp[markP]
theorem markL_length (k:Nat) (ls:List Ld):(markL k ls).length=ls.length:=by simp[markL]
theorem markP_get {k i:Nat} {ps:List Pd} (h:i<ps.length):(markP k ps)[i]?=some ⟨mkT (k+i *2),mkT (k+i *2+1)⟩:=by simp[markP,h]
theorem markL_get {k i:Nat} {ps:List Ld} (h:i<ps.length):(markL k ps)[i]?=some ⟨(k:Int)+(i:Int) *3,mkT (k+i *3+1),(k:Int)+(i:Int) *3+1+1⟩:=by simp[markL,h]
theorem row_setP:∀{zs:List Pd} {i:Nat},i<zs.length->∀y:Pd,((rowC pC zs).set (i *2) (.string y.name)).set (i *2+1) (.string y.sum)=rowC pC (zs.set i y)
 |[],i,h,_=>by simp at h
 |z::zs,0,h,y=>by simp[rowC,pC]
 |z::zs,i+1,h,y=>by
  have ih:=row_setP (zs:=zs) (i:=i) (by simpa using h) y;have e:rowC pC (z::zs)=pC z++rowC pC zs:=by simp[rowC]
  have e2:rowC pC ((z::zs).set (i+1) y)=pC z++rowC pC (zs.set i y):=by simp[rowC]
  rw[e,e2,←ih,show(i+1) *2=(pC z).length+i *2 by rw[pC_len];omega];rw[List.set_append_right _ _ (by omega),Nat.add_sub_cancel_left,show(pC z).length+i *2+1=(pC z).length+(i *2+1) by omega,List.set_append_right _ _ (by omega),Nat.add_sub_cancel_left]
theorem row_setL:∀{zs:List Ld} {i:Nat},i<zs.length->∀y:Ld,(((rowC lC zs).set (i *3) (.int .i64 y.num)).set (i *3+1) (.string y.sum)).set (i *3+2) (.int .i64 y.til)=rowC lC (zs.set i y)
 |[],i,h,_=>by simp at h
 |z::zs,0,h,y=>by simp[rowC,lC]
 |z::zs,i+1,h,y=>by
  have ih:=row_setL (zs:=zs) (i:=i) (by simpa using h) y;have e:rowC lC (z::zs)=lC z++rowC lC zs:=by simp[rowC]
  have e2:rowC lC ((z::zs).set (i+1) y)=lC z++rowC lC (zs.set i y):=by simp[rowC]
  rw[e,e2,←ih,show(i+1) *3=(lC z).length+i *3 by rw[lC_len];omega];rw[List.set_append_right _ _ (by omega),Nat.add_sub_cancel_left,show(lC z).length+i *3+1=(lC z).length+(i *3+1) by omega,List.set_append_right _ _ (by omega),Nat.add_sub_cancel_left,show(lC z).length+i *3+2=(lC z).length+(i *3+2) by omega,List.set_append_right _ _ (by omega),Nat.add_sub_cancel_left]
theorem markKeptS_zero (a:Option Addr) (cap k:Nat) (w:World):Calls prog 102 #[.slice a 0 cap,.int .i64 k] w fun e w'=>e=.returned (.int .i64 k)/\w'=w:=by
 go_enter func102,ntmps102;go_wp2
 go_loopw [1,5] (fun v i wr=>v=.int .i64 k/\i=.int .i64 0/\wr=w) (fun _ _ _=>0)
 case atStart=>exact⟨rfl,rfl,rfl⟩
 case round=>
  obtain⟨rfl,rfl,rfl⟩:=hrel;go_wp2;go_ret;exact⟨rfl,rfl⟩
theorem heldKeptS_zero (a:Option Addr) (cap k:Nat) (w:World):Calls prog 105 #[.slice a 0 cap,.int .i64 k] w fun e w'=>e=.returned (.int .i64 k)/\w'=w:=by
 go_enter func105,ntmps105;go_wp2
 go_loopw [1,5] (fun v i wr=>v=.int .i64 k/\i=.int .i64 0/\wr=w) (fun _ _ _=>0)
 case atStart=>exact⟨rfl,rfl,rfl⟩
 case round=>
  obtain⟨rfl,rfl,rfl⟩:=hrel;go_wp2;go_ret;exact⟨rfl,rfl⟩
theorem markPinS_zero (a:Option Addr) (cap k:Nat) (w:World):Calls prog 103 #[.slice a 0 cap,.int .i64 k] w fun e w'=>e=.returned (.int .i64 k)/\w'=w:=by
 go_enter func103,ntmps103;go_wp2
 go_loopw [1,5] (fun v i wr=>v=.int .i64 k/\i=.int .i64 0/\wr=w) (fun _ _ _=>0)
 case atStart=>exact⟨rfl,rfl,rfl⟩
 case round=>
  obtain⟨rfl,rfl,rfl⟩:=hrel;go_wp2;go_ret;exact⟨rfl,rfl⟩
theorem heldPinS_zero (a:Option Addr) (cap k:Nat) (w:World):Calls prog 106 #[.slice a 0 cap,.int .i64 k] w fun e w'=>e=.returned (.int .i64 k)/\w'=w:=by
 go_enter func106,ntmps106;go_wp2
 go_loopw [1,5] (fun v i wr=>v=.int .i64 k/\i=.int .i64 0/\wr=w) (fun _ _ _=>0)
 case atStart=>exact⟨rfl,rfl,rfl⟩
 case round=>
  obtain⟨rfl,rfl,rfl⟩:=hrel;go_wp2;go_ret;exact⟨rfl,rfl⟩
theorem markLeaseS_zero (a:Option Addr) (cap k:Nat) (w:World):Calls prog 104 #[.slice a 0 cap,.int .i64 k] w fun e w'=>e=.returned (.int .i64 k)/\w'=w:=by
 go_enter func104,ntmps104;go_wp2
 go_loopw [1,5] (fun v i wr=>v=.int .i64 k/\i=.int .i64 0/\wr=w) (fun _ _ _=>0)
 case atStart=>exact⟨rfl,rfl,rfl⟩
 case round=>
  obtain⟨rfl,rfl,rfl⟩:=hrel;go_wp2;go_ret;exact⟨rfl,rfl⟩
theorem heldLeaseS_zero (a:Option Addr) (cap k:Nat) (w:World):Calls prog 107 #[.slice a 0 cap,.int .i64 k] w fun e w'=>e=.returned (.int .i64 k)/\w'=w:=by
 go_enter func107,ntmps107;go_wp2
 go_loopw [1,5] (fun v i wr=>v=.int .i64 k/\i=.int .i64 0/\wr=w) (fun _ _ _=>0)
 case atStart=>exact⟨rfl,rfl,rfl⟩
 case round=>
  obtain⟨rfl,rfl,rfl⟩:=hrel;go_wp2;go_ret;exact⟨rfl,rfl⟩
theorem markPinX (base g cap k:Nat) (ps:List Pd) (w:World) (h:w.ownsRow base 134 2 (.slice (some ⟨g,0,none⟩) ps.length cap) ps.length (rowC pC ps)) (hk:1<=k) (hkn:k+ps.length *2<=100000000):
 Calls prog 103 #[.slice (some ⟨g,0,none⟩) ps.length cap,.int .i64 k] w fun e w'=>e=.returned (.int .i64 (k+ps.length *2:Nat))/\w'.ownsRow base 134 2 (.slice (some ⟨g,0,none⟩) ps.length cap) ps.length (rowC pC (markP k ps))/\w.grownBy w' (some g):=by
 have H0:Hid _:=h;clear h;go_enter func103,ntmps103;go_wp2
 go_loopw [1,5] (fun v i wr=>∃(j K:Nat) (zs:List Pd),j<=ps.length/\i=.int .i64 j/\v=.int .i64 K/\K=k+j *2/\Hid (zs.length=ps.length/\(∀i,i<j->zs[i]?=(markP k ps)[i]?)/\wr.ownsRow base 134 2 (.slice (some ⟨g,0,none⟩) ps.length cap) ps.length (rowC pC zs)/\w.grownBy wr (some g))) (fun _ i _=>ps.length -(intOf i).toNat)
 case atStart=>exact⟨0,k,ps,Nat.zero_le _,rfl,rfl,by omega,rfl,(fun i h=>by omega),H0.out,grown_refl _ _⟩
 case round=>
  clear H0;obtain⟨j,K,zs,hj,rfl,rfl,hK,HM⟩:=hrel;by_cases hlt:j<ps.length
  ·have hlt':(j:Int)<ps.length:=by omega
   have HX:Hid (j *2+2<=(rowC pC zs).length):=by show _<=_;have:=HM.out.2.2.1.1;omega
   have HKe:Hid _:=hK;have hK1:1<=K:=by omega
   have hK2:K+2<=100000000:=by omega
   clear hK;go_wp2_with fail;refine(markText_at K _ _ rfl (by omega) (by omega)).mono ?_;rintro e w2 ⟨rfl,hb2⟩;have hxl:=HX.out;have h2:=own_below HM.out.2.2.1 hb2;obtain⟨v2,c2⟩:∃v,w2.cell? ⟨g,j *2,none⟩=some v:=⟨_,(h2.cellAt (j *2) (by omega)).trans (List.getElem?_eq_getElem (by omega))⟩;have f2:=h2.frozenAt (j *2)
   have H3:Hid _:=And.intro (h2.stored (j *2) (.string (mkT K))).1 (grown_trans HM.out.2.2.2 (grown_trans (grown_below _ hb2) (h2.stored (j *2) (.string (mkT K))).2));clear h2 hb2 hxl;go_wp2_with fail;refine(markText_at (K+1) _ _ (by omega) (by omega) (by omega)).mono ?_;rintro e w3 ⟨rfl,hb3⟩;have hxl:=HX.out;have h3:=own_below H3.out.1 hb3
   have hx3:j *2+2<=((rowC pC zs).set (j *2) (.string (mkT K))).length:=by simpa using hxl
   obtain⟨v3,c3⟩:∃v,w3.cell? ⟨g,j *2+1,none⟩=some v:=⟨_,(h3.cellAt (j *2+1) (by omega)).trans (List.getElem?_eq_getElem (by omega))⟩;have f3:=h3.frozenAt (j *2+1);have hzl:=HM.out.1;have h4:=(h3.stored (j *2+1) (.string (mkT (K+1)))).1;rw[row_setP (by omega) ⟨mkT K,mkT (K+1)⟩] at h4
   have H4:Hid _:=And.intro h4 (grown_trans H3.out.2 (grown_trans (grown_below _ hb3) (h3.stored (j *2+1) (.string (mkT (K+1)))).2));clear h3 h4 hb3 c2 f2 hxl hx3 hzl;go_wp2;refine⟨⟨j+1,K+1+1,zs.set j ⟨mkT K,mkT (K+1)⟩,by omega,by go_num,by go_num,by have:=HKe.out;omega,by rw[List.length_set];exact HM.out.1,?_,H4.out.1,H4.out.2⟩,by simp[intOf];omega⟩;intro i hi;rcases Nat.lt_or_ge i j with h'|h'
   ·rw[List.getElem?_set_ne (by omega)]
    exact HM.out.2.1 i h'
   ·obtain rfl:i=j:=by omega
    rw[List.getElem?_set_self (by have:=HM.out.1;omega),markP_get hlt,←HKe.out]
  ·obtain rfl:j=ps.length:=by omega
   subst hK;obtain⟨z1,z2,z3,z4⟩:=HM.out;have hze:zs=markP k ps:=by
    apply List.ext_getElem?;intro i;rcases Nat.lt_or_ge i ps.length with h|h
    ·exact z2 i h
    ·rw[List.getElem?_eq_none (by omega),List.getElem?_eq_none (by rw[markP_length];omega)]
   subst hze;have HZ:Hid _:=And.intro z3 z4;clear z1 z2 z3 z4 HM;go_wp2;go_ret;exact⟨rfl,HZ.out.1,HZ.out.2⟩
theorem markLeaseX (base g cap k:Nat) (ps:List Ld) (w:World) (h:w.ownsRow base 137 3 (.slice (some ⟨g,0,none⟩) ps.length cap) ps.length (rowC lC ps)) (hk:1<=k) (hkn:k+ps.length *3<=100000000):
 Calls prog 104 #[.slice (some ⟨g,0,none⟩) ps.length cap,.int .i64 k] w fun e w'=>e=.returned (.int .i64 (k+ps.length *3:Nat))/\w'.ownsRow base 137 3 (.slice (some ⟨g,0,none⟩) ps.length cap) ps.length (rowC lC (markL k ps))/\w.grownBy w' (some g):=by
 have H0:Hid _:=h;clear h;go_enter func104,ntmps104;go_wp2
 go_loopw [1,5] (fun v i wr=>∃(j K:Nat) (zs:List Ld),j<=ps.length/\i=.int .i64 j/\v=.int .i64 K/\K=k+j *3/\Hid (zs.length=ps.length/\(∀i,i<j->zs[i]?=(markL k ps)[i]?)/\wr.ownsRow base 137 3 (.slice (some ⟨g,0,none⟩) ps.length cap) ps.length (rowC lC zs)/\w.grownBy wr (some g))) (fun _ i _=>ps.length -(intOf i).toNat)
 case atStart=>exact⟨0,k,ps,Nat.zero_le _,rfl,rfl,by omega,rfl,(fun i h=>by omega),H0.out,grown_refl _ _⟩
 case round=>
  clear H0;obtain⟨j,K,zs,hj,rfl,rfl,hK,HM⟩:=hrel;by_cases hlt:j<ps.length
  ·have hlt':(j:Int)<ps.length:=by omega
   have HX:Hid (j *3+3<=(rowC lC zs).length):=by show _<=_;have:=HM.out.2.2.1.1;omega
   have HKe:Hid _:=hK;have hK1:1<=K:=by omega
   have hK2:K+3<=100000000:=by omega
   clear hK;have hxl:=HX.out;have h2:=HM.out.2.2.1;obtain⟨v2,c2⟩:∃v,wr.cell? ⟨g,j *3,none⟩=some v:=⟨_,(h2.cellAt (j *3) (by omega)).trans (List.getElem?_eq_getElem (by omega))⟩;have f2:=h2.frozenAt (j *3);have H3:Hid _:=And.intro (h2.stored (j *3) (.int .i64 K)).1 (grown_trans HM.out.2.2.2 (h2.stored (j *3) (.int .i64 K)).2);clear h2 hxl;go_wp2_with fail
   refine(markText_at (K+1) _ _ (by omega) (by omega) (by omega)).mono ?_;rintro e w3 ⟨rfl,hb3⟩;have hxl:=HX.out;have h3:=own_below H3.out.1 hb3;have hx3:j *3+3<=((rowC lC zs).set (j *3) (.int .i64 K)).length:=by simpa using hxl
   obtain⟨v3,c3⟩:∃v,w3.cell? ⟨g,j *3+1,none⟩=some v:=⟨_,(h3.cellAt (j *3+1) (by omega)).trans (List.getElem?_eq_getElem (by omega))⟩;have f3:=h3.frozenAt (j *3+1);obtain⟨v4,c4⟩:∃v,w3.cell? ⟨g,j *3+2,none⟩=some v:=⟨_,(h3.cellAt (j *3+2) (by omega)).trans (List.getElem?_eq_getElem (by omega))⟩;have f4:=h3.frozenAt (j *3+2);have hzl:=HM.out.1;have s4:=h3.stored (j *3+1) (.string (mkT (K+1)))
   have s5:=s4.1.stored (j *3+2) (.int .i64 ((K:Int)+1+1));have h5:=s5.1;rw[row_setL (by omega) ⟨K,mkT (K+1),(K:Int)+1+1⟩] at h5;have H4:Hid _:=And.intro h5 (grown_trans H3.out.2 (grown_trans (grown_below _ hb3) (grown_trans s4.2 s5.2)));clear h3 h5 s4 s5 hb3 c2 f2 hxl hx3 hzl;go_wp2
   refine⟨⟨j+1,K+1+1+1,zs.set j ⟨K,mkT (K+1),(K:Int)+1+1⟩,by omega,by go_num,by go_num,by have:=HKe.out;omega,by rw[List.length_set];exact HM.out.1,?_,H4.out.1,H4.out.2⟩,by simp[intOf];omega⟩;intro i hi;rcases Nat.lt_or_ge i j with h'|h'
   ·rw[List.getElem?_set_ne (by omega)]
    exact HM.out.2.1 i h'
   ·obtain rfl:i=j:=by omega
    rw[List.getElem?_set_self (by have:=HM.out.1;omega),markL_get hlt,HKe.out];simp
  ·obtain rfl:j=ps.length:=by omega
   subst hK;obtain⟨z1,z2,z3,z4⟩:=HM.out;have hze:zs=markL k ps:=by
    apply List.ext_getElem?;intro i;rcases Nat.lt_or_ge i ps.length with h|h
    ·exact z2 i h
    ·rw[List.getElem?_eq_none (by omega),List.getElem?_eq_none (by rw[markL_length];omega)]
   subst hze;have HZ:Hid _:=And.intro z3 z4;clear z1 z2 z3 z4 HM;go_wp2;go_ret;exact⟨rfl,HZ.out.1,HZ.out.2⟩
theorem heldPinX (base g cap k:Nat) (ps:List Pd) (w:World) (h:w.ownsRow base 134 2 (.slice (some ⟨g,0,none⟩) ps.length cap) ps.length (rowC pC (markP k ps))) (hk:1<=k) (hkn:k+ps.length *2<=100000000):
 Calls prog 106 #[.slice (some ⟨g,0,none⟩) ps.length cap,.int .i64 k] w fun e w'=>e=.returned (.int .i64 (k+ps.length *2:Nat))/\Below w.heap.size w w':=by
 have H0:Hid _:=h;have hgl:g<w.heap.size:=(own_lt h rfl).2;clear h;go_enter func106,ntmps106;go_wp2
 go_loopw [1,5] (fun v i wr=>∃(j K:Nat),j<=ps.length/\i=.int .i64 j/\v=.int .i64 K/\K=k+j *2/\Below w.heap.size w wr) (fun _ i _=>ps.length -(intOf i).toNat)
 case atStart=>exact⟨0,k,Nat.zero_le _,rfl,rfl,by omega,Below.refl _ _⟩
 case round=>
  obtain⟨j,K,hj,rfl,rfl,hK,hbel⟩:=hrel;have hzr:=hbel.size;by_cases hlt:j<ps.length
  ·have hlt':(j:Int)<ps.length:=by omega
   have h0:w.ownsRow base 134 2 (.slice (some ⟨g,0,none⟩) ps.length cap) ps.length (rowC pC (markP k ps)):=H0.out;have hxl:=h0.1;have hgj:=markP_get (k:=k) hlt;rw[←hK] at hgj;have c0:w.cell? ⟨g,j *2,none⟩=some (.string (mkT K)):=(h0.cellAt (j *2) (by omega)).trans (row_get pC_len hgj (show 0<2 by decide))
   have c1:w.cell? ⟨g,j *2+1,none⟩=some (.string (mkT (K+1))):=(h0.cellAt (j *2+1) (by omega)).trans (row_get pC_len hgj (show 1<2 by decide));have HKe:Hid _:=hK;have hK1:1<=K:=by omega
   have hK2:K+2<=100000000:=by omega
   clear hK hxl hgj h0;have y0:=(hbel.cell (p:=⟨g,j *2,none⟩) hgl).trans c0;have q0:=Cls.cell y0 (show g<wr.heap.size by omega);have hne:=Cls.ne wr;have HC0:Hid (∀m:Cls wr,Calls prog 49 #[.int .i64 K] m.w fun e w'=>e=.returned (.string (mkT K))/\Below m.w.heap.size m.w w'):=fun m=>markText_at K _ m.w rfl (by omega) (by omega);have HC:Hid _:=c1;clear c0 c1 y0;go_wp2
   refine region_cls_lit (by kernel_rfl) (by kernel_rfl) ?_
   repeat (go_big_quiet_step (exact Cls.calls (HC0.out _)))
   refine wpQuiet_nil ?_;intro m;have bm:Below w.heap.size w m.w:=hbel.trans (m.h.mono hzr);have y1:=(bm.cell (p:=⟨g,j *2+1,none⟩) hgl).trans HC.out;have hzm:=bm.size;generalize m.w=wm at *
   clear q0 hne HC0 m;have q1:=Cls.cell y1 (show g<wm.heap.size by omega);have hne:=Cls.ne wm;have HC2:Hid (∀m:Cls wm,Calls prog 49 #[.int .i64 ((K:Int)+1)] m.w fun e w'=>e=.returned (.string (mkT (K+1)))/\Below m.w.heap.size m.w w'):=fun m=>markText_at (K+1) _ m.w (by omega) (by omega) (by omega);clear y1;go_wp2;refine region_cls_lit (by kernel_rfl) (by kernel_rfl) ?_
   repeat (go_big_quiet_step (exact Cls.calls (HC2.out _)))
   refine wpQuiet_nil ?_;intro m2;have bm2:Below w.heap.size w m2.w:=bm.trans (m2.h.mono hzm);clear q1 hne HC2;go_wp2;exact⟨⟨j+1,K+1+1,by omega,by go_num,by go_num,by have:=HKe.out;omega,bm2⟩,by simp[intOf];omega⟩
  ·obtain rfl:j=ps.length:=by omega
   subst hK;go_wp2;go_ret;exact⟨rfl,hbel⟩
theorem heldLeaseX (base g cap k:Nat) (ps:List Ld) (w:World) (h:w.ownsRow base 137 3 (.slice (some ⟨g,0,none⟩) ps.length cap) ps.length (rowC lC (markL k ps))) (hk:1<=k) (hkn:k+ps.length *3<=100000000):
 Calls prog 107 #[.slice (some ⟨g,0,none⟩) ps.length cap,.int .i64 k] w fun e w'=>e=.returned (.int .i64 (k+ps.length *3:Nat))/\Below w.heap.size w w':=by
 have H0:Hid _:=h;have hgl:g<w.heap.size:=(own_lt h rfl).2;clear h;go_enter func107,ntmps107;go_wp2
 go_loopw [1,5] (fun v i wr=>∃(j K:Nat),j<=ps.length/\i=.int .i64 j/\v=.int .i64 K/\K=k+j *3/\Below w.heap.size w wr) (fun _ i _=>ps.length -(intOf i).toNat)
 case atStart=>exact⟨0,k,Nat.zero_le _,rfl,rfl,by omega,Below.refl _ _⟩
 case round=>
  obtain⟨j,K,hj,rfl,rfl,hK,hbel⟩:=hrel;have hzr:=hbel.size;by_cases hlt:j<ps.length
  ·have hlt':(j:Int)<ps.length:=by omega
   have h0:w.ownsRow base 137 3 (.slice (some ⟨g,0,none⟩) ps.length cap) ps.length (rowC lC (markL k ps)):=H0.out;have hxl:=h0.1;have hgj:=markL_get (k:=k) hlt;rw[←hK] at hgj;have c0:w.cell? ⟨g,j *3,none⟩=some (.int .i64 K):=by
    have:=(h0.cellAt (j *3) (by omega)).trans (row_get lC_len hgj (show 0<3 by decide));rw[this,hK];simp[lC]
   have c1:w.cell? ⟨g,j *3+1,none⟩=some (.string (mkT (K+1))):=(h0.cellAt (j *3+1) (by omega)).trans (row_get lC_len hgj (show 1<3 by decide));have c2:w.cell? ⟨g,j *3+2,none⟩=some (.int .i64 ((K:Int)+1+1)):=by
    have:=(h0.cellAt (j *3+2) (by omega)).trans (row_get lC_len hgj (show 2<3 by decide));rw[this,hK];simp[lC]
   have HKe:Hid _:=hK;have hK1:1<=K:=by omega
   have hK2:K+3<=100000000:=by omega
   clear hK hxl hgj h0;have y0:=(hbel.cell (p:=⟨g,j *3,none⟩) hgl).trans c0;have y1:=(hbel.cell (p:=⟨g,j *3+1,none⟩) hgl).trans c1;have q1:=Cls.cell y1 (show g<wr.heap.size by omega);have hne:=Cls.ne wr
   have HC0:Hid (∀m:Cls wr,Calls prog 49 #[.int .i64 ((K:Int)+1)] m.w fun e w'=>e=.returned (.string (mkT (K+1)))/\Below m.w.heap.size m.w w'):=fun m=>markText_at (K+1) _ m.w (by omega) (by omega) (by omega);have HC:Hid _:=c2;clear c0 c1 c2 y1;go_wp2;refine region_cls_lit (by kernel_rfl) (by kernel_rfl) ?_
   repeat (go_big_quiet_step (exact Cls.calls (HC0.out _)))
   refine wpQuiet_nil ?_;intro m;have bm:Below w.heap.size w m.w:=hbel.trans (m.h.mono hzr);have y2:=(bm.cell (p:=⟨g,j *3+2,none⟩) hgl).trans HC.out;clear q1 hne HC0 y0;go_wp2;exact⟨⟨j+1,K+1+1+1,by omega,by go_num,by go_num,by have:=HKe.out;omega,bm⟩,by simp[intOf];omega⟩
  ·obtain rfl:j=ps.length:=by omega
   subst hK;go_wp2;go_ret;exact⟨rfl,hbel⟩
end Go.Proofs.YtpekbmegopfhfaaGreatDoor
