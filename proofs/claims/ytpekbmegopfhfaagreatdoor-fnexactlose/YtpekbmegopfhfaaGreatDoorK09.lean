import Derived.Test.YtpekbmegopfhfaaGreatDoorK08
set_option maxRecDepth 100000
set_option maxHeartbeats 16000000
namespace Go.Proofs.YtpekbmegopfhfaaGreatDoor
open Go.ChangeShapes Go.WideShapes Go.ChangeAt Go.RowKit _root_.Go.Proofs.Tryz
def AG (ls:List Ld) (n:Int):List Ld:=ls.filter (fun x=> !decide (x.til<=n))
theorem Lf (x:Ld) (b d:Nat) (n:Int) (w:World) (hc:w.cell? (XL b 0)=some (.pointer (some ⟨d,0,none⟩))) (hn:w.cell? (XL d 2)=some (XJ n)):
 Calls prog 209 #[.agg #[XJ x.num,.string x.sum,XJ x.til],.pointer (some ⟨b,0,none⟩)] w fun e w'=>e=.returned (.bool (decide (x.til<=n)))/\Xz w w':=by
 obtain⟨W,hW⟩:∃W,W=w.alloc (.cells #[XJ x.num,.string x.sum,XJ x.til] 137):=⟨_,rfl⟩;have hB:=(Aq hW).1;have c0:W.cell? (XL (w.heap.size) 2)=some (XJ x.til):=by rw[hW];simp[go_sem]
 have c1:=(hB.cell (p:=⟨b,0,none⟩) (World.block_lt_of_cell? w _ hc)).trans hc;have c2:=(hB.cell (p:=⟨d,2,none⟩) (World.block_lt_of_cell? w _ hn)).trans hn;have hd:b<W.heap.size/\d<W.heap.size:=⟨World.block_lt_of_cell? W _ c1,World.block_lt_of_cell? W _ c2⟩;have HW:Hid _:=hW;clear hW hc hn;go_enter func209,ntmps209;go_upto_region 1 with fail;rw[←HW.o];clear HW;have HB:Hid _:=hB;clear hB
 cases hbb:decide (x.til<=n)
 all_goals
  have zA:Hid _:=hbb;go_region_with fail
  all_goals
   clear c0 c1 c2;go_wp2;go_ret;exact⟨by rw[zA.o];rfl,HB.o.drew⟩
def UD (ls:List Ld) (n r:Int):Prop:=(r= -1/\∀x∈ls,n<x.til)∨∃(i:Nat) (x:Ld),r=i/\ls[i]?=some x/\x.til<=n/\∀j y,j<i->ls[j]?=some y->n<y.til
theorem HJ (a:Option Addr) (cap b d:Nat) (n:Int) (ls:List Ld) (w:World) (zC:AR w w.heap.size a ls) (hl:ls.length<=1048576) (hc:w.cell? (XL b 0)=some (.pointer (some ⟨d,0,none⟩))) (hn:w.cell? (XL d 2)=some (XJ n)):
 Calls prog 236 #[.slice a ls.length cap,.func (.func 209) #[] #[.pointer (some ⟨b,0,none⟩)]] w fun e w'=>∃r:Int,e=.returned (XJ r)/\UD ls n r/\Xz w w':=by
 have zJ:=World.block_lt_of_cell? w _ hc;have zK:=World.block_lt_of_cell? w _ hn;go_enter func236,ntmps236;go_wp2
 go_loopw [8] (fun i wr=>∃k:Nat,k<=ls.length/\i=XJ k/\Hid (∀j x,j<k->ls[j]?=some x->n<x.til)/\Xz w wr) (fun i _=>ls.length -(intOf i).toNat)
 case atStart=>exact⟨0,Nat.zero_le _,rfl,(fun j x h=>by omega),Below.refl _ _⟩
 case round=>
  obtain⟨k,hk,rfl,zB,zA⟩:=hrel;have zI:=zA.size;by_cases hlt:k<ls.length
  ·obtain⟨b',off,ha,hb,zE⟩:=(zC.below zA).at hlt
   subst ha;have hg:Hid _:=XD hlt;obtain⟨c0,c1,c2⟩:=zE k _ hg.o;have zM:=(zA.cell (p:=⟨b,0,none⟩) zJ).trans hc;have zH:=(zA.cell (p:=⟨d,2,none⟩) zK).trans hn;clear zE zC;generalize ls[k]=x at *
   go_wp2_with fail;refine(Lf x b d n wr zM zH).mono ?_;rintro e w1 ⟨rfl,zG⟩;have zF:=zA.trans (zG.mono zI);by_cases h:x.til<=n
   ·have hd:decide (x.til<=n)=true:=by simpa using h
    have HH:Hid _:=h;rw[hd];clear h hd;go_wp2;go_ret;exact⟨_,rfl,.inr ⟨k,x,rfl,hg.o,HH.o,zB.o⟩,zF⟩
   ·have HA:Hid (∀j y,j<k+1->ls[j]?=some y->n<y.til):=by
     intro j y hj hy;rcases Nat.lt_or_ge j k with h'|h'
     ·exact zB.o j y h' hy
     ·obtain rfl:j=k:=by omega
      rw[hg.o] at hy;cases hy;exact Int.not_le.1 h
    have hd:decide (x.til<=n)=false:=by simpa using h
    rw[hd];clear h hd;go_wp2;exact⟨⟨k+1,by omega,by go_num,HA,zF⟩,by simp[intOf];omega⟩
  ·go_wp2
   go_ret;refine⟨_,rfl,.inl ⟨rfl,fun x hx=> ?_⟩,zA⟩;obtain⟨j,hj,rfl⟩:=List.getElem_of_mem hx;exact zB.o j _ (by omega) (XD hj)
def AC (ks:List Kd):Nat:=(ks.map (fun k=>k.refs.length)).sum
theorem Hb {ks:List Kd} {k:Nat} {x:Kd} (h:ks[k]?=some x):AC (ks.take (k+1))=AC (ks.take k)+x.refs.length:=by
 unfold AC;rw[List.take_add_one,h];simp
theorem FP (ks:List Kd) (k:Nat):AC (ks.take k)<=AC ks:=by
 have h:AC ks=AC (ks.take k)+AC (ks.drop k):=by
  unfold AC;rw[←List.sum_append,←List.map_append,List.take_append_drop]
 omega
theorem QS (t:ByteArray) (a:Option Addr) (cap:Nat) (ss:List ByteArray) (left:Int) (w:World) (zA:Ae w w.heap.size a ss)
 (ht:t.size<=maxLen) (hl:ss.length<=maxLen) (hs:∀s∈ss,s.size<=maxLen) (h1:0<=left) (h2:left<=1048576):
 Calls prog 175 #[.agg #[.string t,.slice a ss.length cap],XJ left] w fun e w'=>∃r:Int,e=.returned (XJ r)/\Xz w w'/\r<=left/\(0<=r->ss.length<=1048576/\r<=left -ss.length):=by
 by_cases hfit:(t.size:Int)+ss.length+bulk ss<=left
 ·refine(Nq t a cap ss left w zA h2 hfit).mono ?_
  rintro e w' ⟨rfl,hb⟩;exact⟨_,rfl,hb,by omega,fun _=>⟨by omega,by omega⟩⟩
 ·refine(OS t a cap ss left w zA ht hl hs h1 h2 (by omega)).mono ?_
  rintro e w' ⟨rfl,hb⟩;exact⟨_,rfl,hb,by omega,fun h=>by omega⟩
theorem SP (k:Kd) (a:Option Addr) (cap:Nat) (left:Int) (w:World) (zA:Ae w w.heap.size a k.refs)
 (h0:k.sum.size<=maxLen) (ht:k.text.size<=maxLen) (hl:k.refs.length<=maxLen) (hs:∀s∈k.refs,s.size<=maxLen) (h1:0<=left) (h2:left<=1048576):
 Calls prog 143 #[.agg #[.string k.sum,XJ k.born,.string k.text,.slice a k.refs.length cap],XJ left] w fun e w'=>∃r:Int,e=.returned (XJ r)/\Xz w w'/\r<=left/\(0<=r->k.refs.length<=1048576/\r<=left -k.refs.length):=by
 have hb:Below w.heap.size w (w.alloc (.cells #[.string k.sum,XJ k.born,.string k.text,.slice a k.refs.length cap] 194)):=XA;have zC:=h0;unfold maxLen at zC;by_cases hn:left<k.sum.size
 ·go_enter func143,ntmps143
  go_wp2;go_ret;exact⟨_,rfl,hb,by omega,fun h=>by omega⟩
 ·go_enter func143,ntmps143
  go_wp2_with fail;refine(QS k.text a cap k.refs _ _ (zA.below' hb) ht hl hs (by omega) (by omega)).mono ?_;rintro e w1 ⟨r,rfl,zB,hr,hf⟩;have hB:=hb.trans (zB.mono (by simp));by_cases h3:r<0
  ·go_wp2
   go_ret;exact⟨_,rfl,hB,by omega,fun h=>by omega⟩
  ·go_wp2
   go_ret;exact⟨_,rfl,hB,by omega,fun h=>⟨(hf (by omega)).1,by have:=(hf (by omega)).2;omega⟩⟩
theorem QT (a:Option Addr) (cap:Nat) (ks:List Kd) (left:Int) (w:World) (zE:Bx w w.heap.size a ks) (hm:Mp ks) (h1:0<=left) (h2:left<=1048576):
 Calls prog 111 #[.slice a ks.length cap,XJ left] w fun e w'=>∃r:Int,e=.returned (XJ r)/\Xz w w'/\r<=left/\(0<=r->ks.length<=1048576/\(∀k∈ks,k.refs.length<=1048576)/\(AC ks:Int)<=1048576):=by
 have zH:=hm.len;unfold maxLen at zH;by_cases hn:left<ks.length
 ·go_enter func111,ntmps111
  go_wp2;go_ret;exact⟨_,rfl,Below.refl _ _,by omega,fun h=>by omega⟩
 ·go_enter func111,ntmps111
  go_wp2
  go_loopw [1,5] (fun l i wr=>∃(k:Nat) (L:Int),k<=ks.length/\i=XJ k/\l=XJ L/\0<=L/\L<=left -AC (ks.take k)/\Xz w wr/\Hid (∀j,j<k->∀x,ks[j]?=some x->x.refs.length<=1048576)) (fun _ i _=>ks.length -(intOf i).toNat)
  case atStart=>exact⟨0,_,Nat.zero_le _,rfl,rfl,by omega,by simp[AC];omega,Below.refl _ _,fun j h=>by omega⟩
  case round=>
   obtain⟨k,L,hk,rfl,rfl,zI,hL,zB,zC⟩:=hrel;by_cases hlt:k<ks.length
   ·obtain⟨b,off,ha,hb,hc⟩:=zE.at hlt
    subst ha;have hg:=XD hlt;have zA:=List.getElem_mem hlt;obtain⟨c0,c1,c2,ra,rc,c3,zG⟩:=(hc k _ hg).below zB hb;have m0:=hm.sum _ zA;have m1:=hm.text _ zA;have m2:=hm.refs _ zA;have m3:=hm.ref _ zA;have HG:Hid _:=hg;have zK:=Hb hg;clear hc zE hm zA hg;generalize ks[k]=x at *
    have zF:=SP x ra rc L wr (zG.mono zB.size) m0 m1 m2 m3 zI (by omega);have HC:Hid _:=zF;clear zF m3 zG;go_wp2_with fail;refine Calls.mono HC.o ?_;rintro e w1 ⟨r,rfl,zJ,hr,hf⟩;have hB:=zB.trans (zJ.mono zB.size);by_cases h3:r<0
    ·go_wp2
     go_ret;exact⟨_,rfl,hB,by omega,fun h=>by omega⟩
    ·have HA:Hid (∀j,j<k+1->∀x,ks[j]?=some x->x.refs.length<=1048576):=by
      intro j hj y hy;rcases Nat.lt_or_ge j k with h'|h'
      ·exact zC j h' y hy
      ·obtain rfl:j=k:=by omega
       rw[HG.o] at hy;cases hy;exact(hf (by omega)).1
     have zM:=(hf (by omega)).2;clear hf zC;go_wp2;exact⟨⟨k+1,_,by omega,by go_num,rfl,by omega,by omega,hB,HA⟩,by simp[intOf];omega⟩
   ·go_wp2
    go_ret;refine⟨_,rfl,zB,by omega,fun _=>⟨by omega,fun x hx=> ?_,by rw[XF (by omega)] at hL;omega⟩⟩;obtain⟨j,hj,rfl⟩:=List.getElem_of_mem hx;exact zC j (by omega) _ (XD hj)
theorem QU (wd now given births:Int) (a p l:Option Addr) (ac pc lc:Nat) (ks:List Kd) (ps:List Pd) (ls:List Ld) (left:Int) (w:World) (zA:Bt w w.heap.size a p l ks ps ls)
 (hk:Mp ks) (hp:Mq ps) (hl:Mr ls) (h1:0<=left) (h2:left<=1048576):
 Calls prog 65 #[.agg #[XJ wd,XJ now,XJ given,XJ births,.slice a ks.length ac,.slice p ps.length pc,.slice l ls.length lc],XJ left] w fun e w'=>∃r:Int,e=.returned (XJ r)/\Xz w w'/\r<=left/\(0<=r->Pb ks ps ls/\AC ks<=1048576):=by
 have hb:Below w.heap.size w (w.alloc (.cells #[XJ wd,XJ now,XJ given,XJ births,.slice a ks.length ac,.slice p ps.length pc,.slice l ls.length lc] 57)):=XA;have hx:=AT.new w wd now given births (.slice a ks.length ac) (.slice p ps.length pc) (.slice l ls.length lc) 57;go_enter func65,ntmps65;go_wp2_with fail;refine(QT a ac ks _ _ (zA.below' hb).k hk (by omega) (by omega)).mono ?_
 rintro e w1 ⟨r,rfl,zC,hr,zF⟩;have hB:=hb.trans (zC.mono (by simp));obtain⟨_,_,_,_,_,x5,x6,x7⟩:=hx.below zC;have hz:=zC.size;clear zC;by_cases h3:r<0
 ·go_wp2
  go_ret;exact⟨_,rfl,hB,by omega,fun h=>by omega⟩
 ·go_wp2_with fail
  refine(Pa p pc ps _ _ (zA.below' hB).p hp (by omega) (by omega)).mono ?_;rintro e w2 ⟨r2,rfl,zB,zM,zI⟩;have zE:=hB.trans (zB.mono hB.size);replace x6:=(zB.cell (p:=⟨w.heap.size,6,none⟩) x7).trans x6;have zN:=zB.size;clear zB x5;by_cases h4:r2<0
  ·go_wp2
   go_ret;exact⟨_,rfl,zE,by omega,fun h=>by omega⟩
  ·go_wp2_with fail
   refine(Ms l lc ls _ _ (zA.below' zE).l hl (by omega) (by omega)).mono ?_;rintro e w3 ⟨r3,rfl,zJ,zK,zH⟩;have zG:=zE.trans (zJ.mono zE.size);by_cases h5:r3<0
   ·go_wp2
    go_ret;exact⟨_,rfl,zG,by omega,fun h=>by omega⟩
   ·go_wp2
    go_ret;exact⟨_,rfl,zG,by omega,fun _=>⟨⟨(zF (by omega)).1,(zF (by omega)).2.1,zI (by omega),zH (by omega)⟩,by have:=(zF (by omega)).2.2;omega⟩⟩
def IH (w w':World):Prop:=∀b o,(w.cell? (XL b o)).isSome=true->(w'.cell? (XL b o)).isSome=true/\(w.frozen? ⟨b,o,none⟩=false->w'.frozen? ⟨b,o,none⟩=false)
theorem IH.setCell (w:World) (g p:Nat) (v:Value):IH w (w.setCell ⟨g,p,none⟩ v):=fun b o hs=>by
 refine⟨?_,fun h=>by simpa [go_sem] using h⟩;by_cases e:(⟨b,o,none⟩:Addr)=⟨g,p,none⟩
 ·rw[←e,World.cell?_setCell_same' _ _ _ hs]
  rfl
 ·rw[World.cell?_setCell_other _ _ _ _ (fun e'=>e e'.symm)]
  exact hs
def Wr (w:World) (q n:Nat):Prop:=∀j,j<n->(w.cell? (XL q j)).isSome=true/\w.frozen? ⟨q,j,none⟩=false
theorem QV (w:World) (g p:Nat) (v:Value):w.grownBy (w.setCell (XL g p) v) (some g):=
 ⟨rfl,rfl,rfl,by simp,fun i _ hi=>Below.heap_setCell _ _ _ _ (fun e=>hi (by rw[e]))⟩
theorem Ck (K:Nat) (z:Int) (w:World) (hz:z=K) (hk:1<=K) (zA:K<=1000000000):
 Calls prog 49 #[XJ z] w fun e w'=>e=.returned (.string (BH K))/\Xz w w':=by
 subst hz;exact EK K w hk zA
def Xr (w wr:World) (g n:Nat):Prop:=Wr wr g n/\w.grownBy wr (some g)/\IH w wr
structure Xs (w wr:World) (lo N g:Nat) (ks:List Kd):Prop where
 row:Wr wr g (ks.length *4)
 bel:Below lo w wr
 al:IH w wr
 far:∀k,N<=k->k<w.heap.size->wr.heap[k]?=w.heap[k]?
 refs:∀i x,ks[i]?=some x->∃q c,wr.cell? (XL g (i *4+3))=some (.slice (some ⟨q,0,none⟩) x.refs.length c)/\g<q/\q<N/\Wr wr q x.refs.length
def II (k:Nat) (x:Kd):Kd:=⟨BH k,(k:Int)+1,BH (k+1+1),marks (k+1+1+1) x.refs.length⟩
def BN:Nat->List Kd->List Kd
 |_,[]=>[]
 |k,x::xs=>II k x::BN (k+3+x.refs.length) xs
theorem BD:∀(k:Nat) (xs:List Kd),(BN k xs).length=xs.length
 |_,[]=>rfl
 |k,x::xs=>by simp[BN,BD _ xs]
theorem JP (x:Kd) (xs:List Kd):AC (x::xs)=x.refs.length+AC xs:=by simp[AC]
theorem Gj:∀(k:Nat) (xs ys:List Kd),BN k (xs++ys)=BN k xs++BN (k+xs.length *3+AC xs) ys
 |k,[],ys=>by simp[BN,AC]
 |k,x::xs,ys=>by
  simp only[List.cons_append,BN,Gj _ xs ys];congr 3;rw[JP,List.length_cons];omega
theorem Pr {k j:Nat} {ks:List Kd} {x:Kd} (hx:ks[j]?=some x):BN k (ks.take (j+1))++ks.drop (j+1)=(BN k (ks.take j)++ks.drop j).set j (II (k+j *3+AC (ks.take j)) x):=by
 obtain⟨zA,rfl⟩:=XC hx;have hl:(BN k (ks.take j)).length=j:=by rw[BD,List.length_take];omega
 have zB:(ks.take j).length=j:=by rw[List.length_take];omega
 rw[XE zA,Gj,zB,List.set_append_right _ _ (by omega),hl,Nat.sub_self,List.drop_eq_getElem_cons zA,List.set_cons_zero,List.append_assoc];rfl
structure Fe (w:World) (base:Nat) (T:Value) (rs:List Value) (ks:List Kd):Prop where
 len:rs.length=ks.length
 things:w.ownsRow base 114 4 T ks.length (Ab kC (ks.zip rs))
 refs:∀(i:Nat) (k:Kd) (r:Value),ks[i]?=some k->rs[i]?=some r->w.ownsRow base 9 1 r k.refs.length (k.refs.map Value.string)
 nd:(T.ownBlock.toList++rs.filterMap Value.ownBlock).Nodup
theorem QW {f:Value->Option Nat}:∀{rs:List Value},(rs.filterMap f).Nodup->∀{i j:Nat} {a b:Value} {g:Nat},rs[i]?=some a->rs[j]?=some b->f a=some g->f b=some g->i=j
 |[],_,i,_,_,_,_,h,_,_,_=>by simp at h
 |r::rs,h,0,0,_,_,_,_,_,_,_=>rfl
 |r::rs,h,0,j+1,a,b,g,ha,hb,hfa,hfb=>by
  simp at ha hb;subst ha;rw[List.filterMap_cons_some hfa] at h;exact absurd (List.mem_filterMap.2 ⟨b,XG hb,hfb⟩) (List.nodup_cons.1 h).1
 |r::rs,h,i+1,0,a,b,g,ha,hb,hfa,hfb=>by
  simp at ha hb;subst hb;rw[List.filterMap_cons_some hfb] at h;exact absurd (List.mem_filterMap.2 ⟨a,XG ha,hfa⟩) (List.nodup_cons.1 h).1
 |r::rs,h,i+1,j+1,a,b,g,ha,hb,hfa,hfb=>by
  simp at ha hb;have:(rs.filterMap f).Nodup:=by
   cases hr:f r with
   |none=>rw[List.filterMap_cons_none hr] at h;exact h
   |some q=>rw[List.filterMap_cons_some hr] at h;exact(List.nodup_cons.1 h).2
  rw[QW this ha hb hfa hfb]
theorem MM:∀{zs:List (Kd×Value)} {i:Nat} {x:Kd} {r:Value},zs[i]?=some (x,r)->∀y:Kd,(((Ab kC zs).set (i *4) (.string y.sum)).set (i *4+1) (XJ y.born)).set (i *4+2) (.string y.text)=Ab kC (zs.set i (y,r))
 |[],i,_,_,h,_=>by simp at h
 |z::zs,0,x,r,h,y=>by
  simp at h;subst h;simp[Ab,kC]
 |z::zs,i+1,x,r,h,y=>by
  have h':zs[i]?=some (x,r):=by simpa using h
  have ih:=MM h' y;have e:Ab kC (z::zs)=kC z++Ab kC zs:=by simp[Ab]
  have e2:Ab kC ((z::zs).set (i+1) (y,r))=kC z++Ab kC (zs.set i (y,r)):=by simp[Ab]
  rw[e,e2,←ih,show(i+1) *4=(kC z).length+i *4 by rw[DG];omega];rw[List.set_append_right _ _ (by omega),Nat.add_sub_cancel_left,show(kC z).length+i *4+1=(kC z).length+(i *4+1) by omega,List.set_append_right _ _ (by omega),Nat.add_sub_cancel_left,show(kC z).length+i *4+2=(kC z).length+(i *4+2) by omega,List.set_append_right _ _ (by omega),Nat.add_sub_cancel_left]
theorem UE {ks:List Kd} {rs:List Value} {j:Nat} {y:Kd} {r:Value} (hr:rs[j]?=some r):(ks.set j y).zip rs=(ks.zip rs).set j (y,r):=by
 apply List.ext_getElem?;intro i;by_cases hij:i=j
 ·subst hij
  rcases Nat.lt_or_ge i ks.length with h|h
  ·have zA:=(XC hr).1
   rw[(List.getElem?_zip_eq_some (z:=(y,r))).2 ⟨List.getElem?_set_self h,hr⟩,List.getElem?_set_self (by rw[List.length_zip];omega)]
  ·rw[List.getElem?_eq_none (by rw[List.length_zip,List.length_set];omega),List.getElem?_eq_none (by rw[List.length_set,List.length_zip];omega)]
 ·rw[List.getElem?_set_ne (fun e=>hij e.symm),List.zip_eq_zipWith,List.zip_eq_zipWith,List.getElem?_zipWith,List.getElem?_zipWith,List.getElem?_set_ne (fun e=>hij e.symm)]
theorem QX (base g cap k:Nat) (rs:List Value) (ks:List Kd) (w:World) (h:Fe w base (.slice (some ⟨g,0,none⟩) ks.length cap) rs ks) (hk:1<=k) (yL:k+ks.length *3+AC ks<=100000000):
 Calls prog 102 #[.slice (some ⟨g,0,none⟩) ks.length cap,XJ k] w fun e w'=>e=.returned (XJ (k+ks.length *3+AC ks:Nat))/\Fe w' base (.slice (some ⟨g,0,none⟩) ks.length cap) rs (BN k ks)/\Tn (g::rs.filterMap Value.ownBlock) w w':=by
 have H0:Hid _:=h;clear h;go_enter func102,ntmps102;go_wp2
 go_loopw [1,5] (fun v i wr=>∃(j K:Nat),j<=ks.length/\i=XJ j/\v=XJ K/\Hid (K=k+j *3+AC (ks.take j))/\Hid (Fe wr base (.slice (some ⟨g,0,none⟩) ks.length cap) rs (BN k (ks.take j)++ks.drop j)/\Tn (g::rs.filterMap Value.ownBlock) w wr)) (fun _ i _=>ks.length -(intOf i).toNat)
 case atStart=>exact⟨0,k,Nat.zero_le _,rfl,rfl,(show k=_ by simp[AC]),⟨by simpa [BN] using H0.o,Tn.of (Below.refl _ _)⟩⟩
 case round=>
  clear H0;obtain⟨j,K,hj,rfl,rfl,HK,HM⟩:=hrel;have yA:=FP ks j;by_cases hlt:j<ks.length
  ·have yD:(j:Int)<ks.length:=by omega
   have hg:=XD hlt;have zV:=Hb hg;have zF:=FP ks (j+1);have HS:Hid _:=Pr (k:=k) hg;have zS:(BN k (ks.take j)++ks.drop j)[j]?=some ks[j]:=by
    rw[List.getElem?_append_right (by rw[BD,List.length_take];omega),BD,List.length_take,List.getElem?_drop];rw[show j+(j -min j ks.length)=j by omega];exact hg
   have zI:(BN k (ks.take j)++ks.drop j).length=ks.length:=by
    rw[List.length_append,BD,List.length_take,List.length_drop];omega
   generalize hLe:BN k (ks.take j)++ks.drop j=Lj at *
   have zE:=HK.o;generalize ks[j]=x at *
   obtain⟨M1,M2⟩:=HM.o;have zU:=M1.len.trans zI;obtain⟨r,zB⟩:∃r,rs[j]?=some r:=⟨rs[j]'(by omega),XD (by omega)⟩;have zT:=M1.refs j x r zS zB;obtain⟨ra,rc,rfl⟩:=Ay zT;have zM:=M1.things;rw[zI] at zM;have zW:=(List.getElem?_zip_eq_some (z:=(x,Value.slice ra x.refs.length rc))).2 ⟨zS,zB⟩;have zH:=zM.1;have zK:∀b,(Value.slice ra x.refs.length rc).ownBlock=some b->b≠g:=fun b hb e=>by
    have:=M1.nd;simp only[Value.ownBlock,Option.toList_some,List.cons_append,List.nil_append,List.nodup_cons] at this;exact this.1 (e▸List.mem_filterMap.2 ⟨_,XG zB,hb⟩)
   have yB:Hid _:=zM;have HOr:Hid _:=zT;have yG:Hid _:=And.intro M1 M2;have HZ:Hid _:=zW;have yJ:1<=K:=by omega
   have yK:K+3+x.refs.length<=100000000:=by omega
   have HX:Hid (j *4+4<=(Ab kC (Lj.zip rs)).length):=by show _<=_;omega
   have yI:Hid _:=hLe;have yH:Hid _:=zE;have HN:Hid _:=And.intro zV (And.intro zF zI);have HR:Hid _:=And.intro zB zU;clear M1 M2 zM zT hg HM zW zS hLe zE zV zF zI zB zU zH yA;go_wp2_with fail;refine(Ck K _ _ rfl (by omega) (by omega)).mono ?_;rintro e w2 ⟨rfl,zP⟩;have h2:=Ad yB.o zP;have zH:=HX.o;have c2:∃v,w2.cell? (XL g (j *4))=some v:=⟨_,(h2.cellAt (j *4) (by omega)).trans (XD (by omega))⟩
   obtain⟨v2,c2⟩:=c2;have c3:∃v,w2.cell? (XL g (j *4+1))=some v:=⟨_,(h2.cellAt (j *4+1) (by omega)).trans (XD (by omega))⟩;obtain⟨v3,c3⟩:=c3;have ff:=h2.frozenAt;have f2:=ff (j *4);have f3:=ff (j *4+1);have h3:=((h2.stored (j *4) (.string (BH K))).1.stored (j *4+1) (XJ ((K:Int)+1))).1;have zX:Hid _:=Bh (Bh (Ad HOr.o zP) zK (j *4) (.string (BH K))) zK (j *4+1) (XJ ((K:Int)+1))
   have T3:Hid (Tn [g] wr ((w2.setCell (XL g (j *4)) (.string (BH K))).setCell (XL g (j *4+1)) (XJ ((K:Int)+1)))):=((Tn.of zP).trans (Tn.set w2 g _ _ (by simp))).trans (Tn.set _ g _ _ (by simp));have H3:Hid _:=h3;clear h2 h3 zP ff zH;go_wp2_with fail;refine(Ck (K+1+1) _ _ (by omega) (by omega) (by omega)).mono ?_;rintro e w4 ⟨rfl,zO⟩;have h4:=Ad H3.o zO;have zH:=HX.o
   have yE:j *4+4<=((((Ab kC (Lj.zip rs)).set (j *4) (.string (BH K))).set (j *4+1) (XJ ((K:Int)+1)))).length:=by simpa using zH
   have c4:∃v,w4.cell? (XL g (j *4+2))=some v:=⟨_,(h4.cellAt (j *4+2) (by omega)).trans (XD (by omega))⟩;obtain⟨v4,c4⟩:=c4;have f4:=h4.frozenAt (j *4+2);have c5:w4.cell? (XL g (j *4+3))=some (.slice ra x.refs.length rc):=by
    rw[h4.cellAt (j *4+3) (by omega),List.getElem?_set_ne (by omega),List.getElem?_set_ne (by omega)];exact Bl DG HZ.o (show 3<4 by decide)
   have h5:=(h4.stored (j *4+2) (.string (BH (K+1+1)))).1;rw[MM HZ.o ⟨BH K,(K:Int)+1,BH (K+1+1),marks (K+1+1+1) x.refs.length⟩] at h5;have yC:Hid _:=Bh (Ad zX.o zO) zK (j *4+2) (.string (BH (K+1+1)));have T5:Hid (Tn [g] wr (w4.setCell (XL g (j *4+2)) (.string (BH (K+1+1))))):=(T3.o.trans (Tn.of zO)).trans (Tn.set w4 g _ _ (by simp));have H5:Hid _:=h5;clear h4 h5 zO c2 f2 c3 f3 zX T3 H3 zH yE
   have zA:=Qw ra x.refs.length rc (K+1+1+1) base _ (w4.setCell (XL g (j *4+2)) (.string (BH (K+1+1)))) yC.o (by omega) (by omega);rw[show((K+1+1+1:Nat):Int)=(K:Int)+1+1+1 from by omega] at zA;have HC:Hid _:=zA;clear zA;go_wp2_with fail;refine Calls.mono HC.o ?_;rintro e w6 ⟨rfl,zN,zC⟩;have HF:Hid _:=And.intro zN zC;clear zN zC HC c4 f4 c5;go_wp2;obtain⟨zV,zF,zI⟩:=HN.o;obtain⟨zB,zU⟩:=HR.o
   have zE:=yH.o;obtain⟨M1,M2⟩:=yG.o;obtain⟨zN,zC⟩:=HF.o;have zR:=M1.nd;simp only[Value.ownBlock,Option.toList_some,List.cons_append,List.nil_append,List.nodup_cons] at zR;have zZ:∀b,b<wr.heap.size->b≠g->(Value.slice ra x.refs.length rc).ownBlock≠some b->w6.heap[b]?=wr.heap[b]?:=fun b h1 h2 h3=>(zC.block b (XH h1 T5.o.size) (fun e=>h3 e.symm)).trans (T5.o.block b h1 (by simpa using h2))
   have yF:Tn (g::rs.filterMap Value.ownBlock) wr w6:=by
    refine⟨zC.os.trans T5.o.os,zC.tape.trans T5.o.tape,zC.output.trans T5.o.output,XI T5.o.size zC.size,fun b h1 h2=> ?_⟩;refine zZ b h1 (fun e=>h2 (by simp[e])) (fun e=>h2 (List.mem_cons_of_mem _ (List.mem_filterMap.2 ⟨_,XG zB,e⟩)))
   refine⟨⟨j+1,K+1+1+1+x.refs.length,by omega,by go_num,by go_num,?_,?_,M2.trans yF⟩,by simp[intOf];omega⟩
   ·show _=_
    omega
   ·rw[HS.o,←zE]
    refine⟨by rw[List.length_set];omega,?_,?_,M1.nd⟩
    ·rw[List.length_set,zI,UE zB]
     exact World.ownsRow.kept H5.o zC (.inr (fun e=>zK g e.symm rfl))
    ·intro i y r' hy zG
     by_cases hij:i=j
     ·subst hij
      rw[zB] at zG;cases zG;rw[List.getElem?_set_self (by omega)] at hy;cases hy;show w6.ownsRow base 9 1 _ (marks (K+1+1+1) x.refs.length).length _;rw[BA];exact zN
     ·rw[List.getElem?_set_ne (fun e=>hij e.symm)] at hy
      refine Ah (M1.refs i y r' hy zG) (fun b hb=>zZ b (Ac (M1.refs i y r' hy zG) hb).2 (fun e=>zR.1 (e▸List.mem_filterMap.2 ⟨_,XG zG,hb⟩)) (fun e=>hij (QW zR.2 zG zB hb e)))
  ·obtain rfl:j=ks.length:=by omega
   have zE:=HK.o;have zJ:=HM.o;rw[XF (XB)] at zE zJ;rw[List.drop_of_length_le (XB),List.append_nil] at zJ;have zY:Hid _:=zJ;clear zJ HM;subst zE;go_wp2;go_ret;exact⟨rfl,zY.o.1,zY.o.2⟩
theorem QY {k j:Nat} {ks:List Kd} {x:Kd} (hx:ks[j]?=some x):(BN k ks)[j]?=some (II (k+j *3+AC (ks.take j)) x):=by
 obtain⟨zB,rfl⟩:=XC hx;have h1:=(List.take_append_drop j ks).symm;have hl:(BN k (ks.take j)).length=j:=by rw[BD,List.length_take];omega
 have zA:(ks.take j).length=j:=by rw[List.length_take];omega
 conv=>lhs;rw[h1,Gj,zA,List.drop_eq_getElem_cons zB]
 rw[List.getElem?_append_right (by omega),hl,Nat.sub_self];rfl
theorem QZ (base g cap k:Nat) (rs:List Value) (ks:List Kd) (w:World) (h:Fe w base (.slice (some ⟨g,0,none⟩) ks.length cap) rs (BN k ks)) (hk:1<=k) (yF:k+ks.length *3+AC ks<=100000000):
 Calls prog 105 #[.slice (some ⟨g,0,none⟩) ks.length cap,XJ k] w fun e w'=>e=.returned (XJ (k+ks.length *3+AC ks:Nat))/\Xz w w':=by
 have H0:Hid _:=h;have zI:g<w.heap.size:=(Ac h.things rfl).2;clear h;go_enter func105,ntmps105;go_wp2
 go_loopw [1,5] (fun v i wr=>∃(j K:Nat),j<=ks.length/\i=XJ j/\v=XJ K/\Hid (K=k+j *3+AC (ks.take j))/\Xz w wr) (fun _ i _=>ks.length -(intOf i).toNat)
 case atStart=>exact⟨0,k,Nat.zero_le _,rfl,rfl,(show k=_ by simp[AC]),Below.refl _ _⟩
 case round=>
  obtain⟨j,K,hj,rfl,rfl,HK,zB⟩:=hrel;have zW:=FP ks j;have zX:=zB.size;by_cases hlt:j<ks.length
  ·have yB:(j:Int)<ks.length:=by omega
   have hg:ks[j]?=some ks[j]:=XD hlt;have zP:=Hb hg;have zN:=FP ks (j+1);have zJ:=QY (k:=k) hg;have zE:=HK.o;rw[←zE] at zJ;generalize ks[j]=x at *
   have zV:rs.length=ks.length:=H0.o.len.trans (BD k ks);obtain⟨r,zK⟩:∃r,rs[j]?=some r:=⟨rs[j]'(by omega),XD (by omega)⟩;have zG:=H0.o.refs j _ r zJ zK;have zO:(II K x).refs.length=x.refs.length:=BA _ _;rw[zO] at zG;obtain⟨ra,rc,rfl⟩:=Ay zG;have zC:=H0.o.things;rw[BD] at zC
   have zF:((BN k ks).zip rs)[j]?=some (II K x,Value.slice ra x.refs.length rc):=(List.getElem?_zip_eq_some (z:=(II K x,Value.slice ra x.refs.length rc))).2 ⟨zJ,zK⟩;have zY:=zC.1;have c0:w.cell? (XL g (j *4))=some (.string (BH K)):=(zC.cellAt (j *4) (by omega)).trans (Bl DG zF (show 0<4 by decide))
   have c1:w.cell? (XL g (j *4+1))=some (XJ ((K:Int)+1)):=(zC.cellAt (j *4+1) (by omega)).trans (Bl DG zF (show 1<4 by decide));have c2:w.cell? (XL g (j *4+2))=some (.string (BH (K+1+1))):=(zC.cellAt (j *4+2) (by omega)).trans (Bl DG zF (show 2<4 by decide));have c3:w.cell? (XL g (j *4+3))=some (.slice ra x.refs.length rc):=(zC.cellAt (j *4+3) (by omega)).trans (Bl DG zF (show 3<4 by decide))
   have HR:Hid (Ae w w.heap.size ra (marks (K+1+1+1) x.refs.length)):=by
    have h1:w.ownsRow base 9 1 (.slice ra (marks (K+1+1+1) x.refs.length).length rc) (marks (K+1+1+1) x.refs.length).length ((marks (K+1+1+1) x.refs.length).map Value.string):=by
     rw[BA];exact zG
    rcases h1.2 with⟨hv,h0⟩|⟨q,zU,yE,hv,_⟩
    ·exact .inl (List.eq_nil_of_length_eq_zero h0)
    ·cases hv
     exact Ae.own h1
   have yG:1<=K:=by omega
   have yD:K+3+x.refs.length<=100000000:=by omega
   have HN:Hid _:=And.intro zP zE;clear zC zG hg zF zJ zE zP zN zK zV zY zW zO;have y0:=(zB.cell (p:=⟨g,j *4,none⟩) zI).trans c0;have q0:=AB.cell y0 (show g<wr.heap.size by omega);have zM:=AB.ne wr;have zS:Hid (∀m:AB wr,Calls prog 49 #[XJ K] m.w fun e w'=>e=.returned (.string (BH K))/\Below m.w.heap.size m.w w'):=fun m=>Ck K _ m.w rfl (by omega) (by omega)
   have HC:Hid _:=And.intro c1 (And.intro c2 c3);clear c0 c1 c2 c3 y0;go_wp2;refine AE (by kernel_rfl) (by kernel_rfl) ?_
   repeat (go_big_quiet_step (exact AB.calls (zS.o _)))
   refine wpQuiet_nil ?_;intro m;have bm:Below w.heap.size w m.w:=zB.trans (m.h.mono zX);have y1:=(bm.cell (p:=⟨g,j *4+1,none⟩) zI).trans HC.o.1;have y2:=(bm.cell (p:=⟨g,j *4+2,none⟩) zI).trans HC.o.2.1;have y3:=(bm.cell (p:=⟨g,j *4+3,none⟩) zI).trans HC.o.2.2;have yC:=bm.size;generalize m.w=wm at *
   clear q0 zM zS m;have q2:=AB.cell y2 (show g<wm.heap.size by omega);have zM:=AB.ne wm;have zT:Hid (∀m:AB wm,Calls prog 49 #[XJ ((K:Int)+1+1)] m.w fun e w'=>e=.returned (.string (BH (K+1+1)))/\Below m.w.heap.size m.w w'):=fun m=>Ck (K+1+1) _ m.w (by omega) (by omega) (by omega);have zR:Hid _:=y3;clear y2 y3;go_wp2;refine AE (by kernel_rfl) (by kernel_rfl) ?_
   repeat (go_big_quiet_step (exact AB.calls (zT.o _)))
   refine wpQuiet_nil ?_;intro m2;have zH:Below w.heap.size w m2.w:=bm.trans (m2.h.mono yC);have z3:=(m2.h.cell (p:=⟨g,j *4+3,none⟩) (show g<wm.heap.size by omega)).trans zR.o;have zA:=FA ra x.refs.length rc (K+1+1+1) w.heap.size m2.w (Ae.below HR.o zH) zH.size (by omega) (by omega);rw[show((K+1+1+1:Nat):Int)=(K:Int)+1+1+1 from by omega] at zA;have HL:Hid _:=zA;have zZ:=zH.size
   generalize m2.w=w2 at *
   clear q2 zM zT m2 zA y1 zR;go_wp2_with fail;refine Calls.mono HL.o ?_;rintro e w3 ⟨rfl,yA⟩;clear z3 HL;go_wp2;exact⟨⟨j+1,K+1+1+1+x.refs.length,by omega,by go_num,by go_num,(by have:=HN.o;show _=_;omega),zH.trans (yA.mono zZ)⟩,by simp[intOf];omega⟩
  ·obtain rfl:j=ks.length:=by omega
   have zE:=HK.o;rw[XF (XB)] at zE;subst zE;go_wp2;go_ret;exact⟨rfl,zB⟩
def Dv (k:Nat) (ps:List Pd):List Pd:=(List.range ps.length).map fun i=>⟨BH (k+i *2),BH (k+i *2+1)⟩
def Dw (k:Nat) (ls:List Ld):List Ld:=(List.range ls.length).map fun(i:Nat)=>⟨(k:Int)+(i:Int) *3,BH (k+i *3+1),(k:Int)+(i:Int) *3+1+1⟩
theorem DS (k:Nat) (ps:List Pd):(Dv k ps).length=ps.length:=by simp[Dv]
theorem EP (k:Nat) (ls:List Ld):(Dw k ls).length=ls.length:=by simp[Dw]
theorem Lg {k i:Nat} {ps:List Pd} (h:i<ps.length):(Dv k ps)[i]?=some ⟨BH (k+i *2),BH (k+i *2+1)⟩:=by simp[Dv,h]
theorem Lh {k i:Nat} {ps:List Ld} (h:i<ps.length):(Dw k ps)[i]?=some ⟨(k:Int)+(i:Int) *3,BH (k+i *3+1),(k:Int)+(i:Int) *3+1+1⟩:=by simp[Dw,h]
theorem Jm:∀{zs:List Pd} {i:Nat},i<zs.length->∀y:Pd,((Ab pC zs).set (i *2) (.string y.name)).set (i *2+1) (.string y.sum)=Ab pC (zs.set i y)
 |[],i,h,_=>by simp at h
 |z::zs,0,h,y=>by simp[Ab,pC]
 |z::zs,i+1,h,y=>by
  have ih:=Jm (zs:=zs) (i:=i) (by simpa using h) y;have e:Ab pC (z::zs)=pC z++Ab pC zs:=by simp[Ab]
  have e2:Ab pC ((z::zs).set (i+1) y)=pC z++Ab pC (zs.set i y):=by simp[Ab]
  rw[e,e2,←ih,show(i+1) *2=(pC z).length+i *2 by rw[BB];omega];rw[List.set_append_right _ _ (by omega),Nat.add_sub_cancel_left,show(pC z).length+i *2+1=(pC z).length+(i *2+1) by omega,List.set_append_right _ _ (by omega),Nat.add_sub_cancel_left]
theorem Jn:∀{zs:List Ld} {i:Nat},i<zs.length->∀y:Ld,(((Ab lC zs).set (i *3) (XJ y.num)).set (i *3+1) (.string y.sum)).set (i *3+2) (XJ y.til)=Ab lC (zs.set i y)
 |[],i,h,_=>by simp at h
 |z::zs,0,h,y=>by simp[Ab,lC]
 |z::zs,i+1,h,y=>by
  have ih:=Jn (zs:=zs) (i:=i) (by simpa using h) y;have e:Ab lC (z::zs)=lC z++Ab lC zs:=by simp[Ab]
  have e2:Ab lC ((z::zs).set (i+1) y)=lC z++Ab lC (zs.set i y):=by simp[Ab]
  rw[e,e2,←ih,show(i+1) *3=(lC z).length+i *3 by rw[Cf];omega];rw[List.set_append_right _ _ (by omega),Nat.add_sub_cancel_left,show(lC z).length+i *3+1=(lC z).length+(i *3+1) by omega,List.set_append_right _ _ (by omega),Nat.add_sub_cancel_left,show(lC z).length+i *3+2=(lC z).length+(i *3+2) by omega,List.set_append_right _ _ (by omega),Nat.add_sub_cancel_left]
theorem Kv (a:Option Addr) (cap k:Nat) (w:World):Calls prog 102 #[.slice a 0 cap,XJ k] w fun e w'=>e=.returned (XJ k)/\w'=w:=by
 go_enter func102,ntmps102;go_wp2
 go_loopw [1,5] (fun v i wr=>v=XJ k/\i=XJ 0/\wr=w) (fun _ _ _=>0)
 case atStart=>exact⟨rfl,rfl,rfl⟩
 case round=>
  obtain⟨rfl,rfl,rfl⟩:=hrel;go_wp2;go_ret;exact⟨rfl,rfl⟩
theorem Kw (a:Option Addr) (cap k:Nat) (w:World):Calls prog 105 #[.slice a 0 cap,XJ k] w fun e w'=>e=.returned (XJ k)/\w'=w:=by
 go_enter func105,ntmps105;go_wp2
 go_loopw [1,5] (fun v i wr=>v=XJ k/\i=XJ 0/\wr=w) (fun _ _ _=>0)
 case atStart=>exact⟨rfl,rfl,rfl⟩
 case round=>
  obtain⟨rfl,rfl,rfl⟩:=hrel;go_wp2;go_ret;exact⟨rfl,rfl⟩
theorem LI (a:Option Addr) (cap k:Nat) (w:World):Calls prog 103 #[.slice a 0 cap,XJ k] w fun e w'=>e=.returned (XJ k)/\w'=w:=by
 go_enter func103,ntmps103;go_wp2
 go_loopw [1,5] (fun v i wr=>v=XJ k/\i=XJ 0/\wr=w) (fun _ _ _=>0)
 case atStart=>exact⟨rfl,rfl,rfl⟩
 case round=>
  obtain⟨rfl,rfl,rfl⟩:=hrel;go_wp2;go_ret;exact⟨rfl,rfl⟩
theorem LJ (a:Option Addr) (cap k:Nat) (w:World):Calls prog 106 #[.slice a 0 cap,XJ k] w fun e w'=>e=.returned (XJ k)/\w'=w:=by
 go_enter func106,ntmps106;go_wp2
 go_loopw [1,5] (fun v i wr=>v=XJ k/\i=XJ 0/\wr=w) (fun _ _ _=>0)
 case atStart=>exact⟨rfl,rfl,rfl⟩
 case round=>
  obtain⟨rfl,rfl,rfl⟩:=hrel;go_wp2;go_ret;exact⟨rfl,rfl⟩
theorem JQ (a:Option Addr) (cap k:Nat) (w:World):Calls prog 104 #[.slice a 0 cap,XJ k] w fun e w'=>e=.returned (XJ k)/\w'=w:=by
 go_enter func104,ntmps104;go_wp2
 go_loopw [1,5] (fun v i wr=>v=XJ k/\i=XJ 0/\wr=w) (fun _ _ _=>0)
 case atStart=>exact⟨rfl,rfl,rfl⟩
 case round=>
  obtain⟨rfl,rfl,rfl⟩:=hrel;go_wp2;go_ret;exact⟨rfl,rfl⟩
theorem JR (a:Option Addr) (cap k:Nat) (w:World):Calls prog 107 #[.slice a 0 cap,XJ k] w fun e w'=>e=.returned (XJ k)/\w'=w:=by
 go_enter func107,ntmps107;go_wp2
 go_loopw [1,5] (fun v i wr=>v=XJ k/\i=XJ 0/\wr=w) (fun _ _ _=>0)
 case atStart=>exact⟨rfl,rfl,rfl⟩
 case round=>
  obtain⟨rfl,rfl,rfl⟩:=hrel;go_wp2;go_ret;exact⟨rfl,rfl⟩
theorem SQ (base g cap k:Nat) (ps:List Pd) (w:World) (h:w.ownsRow base 134 2 (.slice (some ⟨g,0,none⟩) ps.length cap) ps.length (Ab pC ps)) (hk:1<=k) (zK:k+ps.length *2<=100000000):
 Calls prog 103 #[.slice (some ⟨g,0,none⟩) ps.length cap,XJ k] w fun e w'=>e=.returned (XJ (k+ps.length *2:Nat))/\w'.ownsRow base 134 2 (.slice (some ⟨g,0,none⟩) ps.length cap) ps.length (Ab pC (Dv k ps))/\w.grownBy w' (some g):=by
 have H0:Hid _:=h;clear h;go_enter func103,ntmps103;go_wp2
 go_loopw [1,5] (fun v i wr=>∃(j K:Nat) (zs:List Pd),j<=ps.length/\i=XJ j/\v=XJ K/\K=k+j *2/\Hid (zs.length=ps.length/\(∀i,i<j->zs[i]?=(Dv k ps)[i]?)/\wr.ownsRow base 134 2 (.slice (some ⟨g,0,none⟩) ps.length cap) ps.length (Ab pC zs)/\w.grownBy wr (some g))) (fun _ i _=>ps.length -(intOf i).toNat)
 case atStart=>exact⟨0,k,ps,Nat.zero_le _,rfl,rfl,by omega,rfl,(fun i h=>by omega),H0.o,Eb _ _⟩
 case round=>
  clear H0;obtain⟨j,K,zs,hj,rfl,rfl,hK,HM⟩:=hrel;by_cases hlt:j<ps.length
  ·have zH:(j:Int)<ps.length:=by omega
   have HX:Hid (j *2+2<=(Ab pC zs).length):=by show _<=_;have:=HM.o.2.2.1.1;omega
   have zE:Hid _:=hK;have zM:1<=K:=by omega
   have zJ:K+2<=100000000:=by omega
   clear hK;go_wp2_with fail;refine(Ck K _ _ rfl (by omega) (by omega)).mono ?_;rintro e w2 ⟨rfl,zB⟩;have zA:=HX.o;have h2:=Ad HM.o.2.2.1 zB;obtain⟨v2,c2⟩:∃v,w2.cell? (XL g (j *2))=some v:=⟨_,(h2.cellAt (j *2) (by omega)).trans (XD (by omega))⟩;have f2:=h2.frozenAt (j *2)
   have H3:Hid _:=And.intro (h2.stored (j *2) (.string (BH K))).1 (Ap HM.o.2.2.2 (Ap (Ax _ zB) (h2.stored (j *2) (.string (BH K))).2));clear h2 zB zA;go_wp2_with fail;refine(Ck (K+1) _ _ (by omega) (by omega) (by omega)).mono ?_;rintro e w3 ⟨rfl,zC⟩;have zA:=HX.o;have h3:=Ad H3.o.1 zC;have zF:j *2+2<=((Ab pC zs).set (j *2) (.string (BH K))).length:=by simpa using zA
   obtain⟨v3,c3⟩:∃v,w3.cell? (XL g (j *2+1))=some v:=⟨_,(h3.cellAt (j *2+1) (by omega)).trans (XD (by omega))⟩;have f3:=h3.frozenAt (j *2+1);have zI:=HM.o.1;have h4:=(h3.stored (j *2+1) (.string (BH (K+1)))).1;rw[Jm (by omega) ⟨BH K,BH (K+1)⟩] at h4;have H4:Hid _:=And.intro h4 (Ap H3.o.2 (Ap (Ax _ zC) (h3.stored (j *2+1) (.string (BH (K+1)))).2));clear h3 h4 zC c2 f2 zA zF zI;go_wp2
   refine⟨⟨j+1,K+1+1,zs.set j ⟨BH K,BH (K+1)⟩,by omega,by go_num,by go_num,by have:=zE.o;omega,by rw[List.length_set];exact HM.o.1,?_,H4.o.1,H4.o.2⟩,by simp[intOf];omega⟩;intro i hi;rcases Nat.lt_or_ge i j with h'|h'
   ·rw[List.getElem?_set_ne (by omega)]
    exact HM.o.2.1 i h'
   ·obtain rfl:i=j:=by omega
    rw[List.getElem?_set_self (by have:=HM.o.1;omega),Lg hlt,←zE.o]
  ·obtain rfl:j=ps.length:=by omega
   subst hK;obtain⟨z1,z2,z3,z4⟩:=HM.o;have zG:zs=Dv k ps:=by
    apply List.ext_getElem?;intro i;rcases Nat.lt_or_ge i ps.length with h|h
    ·exact z2 i h
    ·rw[List.getElem?_eq_none (by omega),List.getElem?_eq_none (by rw[DS];omega)]
   subst zG;have HZ:Hid _:=And.intro z3 z4;clear z1 z2 z3 z4 HM;go_wp2;go_ret;exact⟨rfl,HZ.o.1,HZ.o.2⟩
theorem Ps (base g cap k:Nat) (ps:List Ld) (w:World) (h:w.ownsRow base 137 3 (.slice (some ⟨g,0,none⟩) ps.length cap) ps.length (Ab lC ps)) (hk:1<=k) (zJ:k+ps.length *3<=100000000):
 Calls prog 104 #[.slice (some ⟨g,0,none⟩) ps.length cap,XJ k] w fun e w'=>e=.returned (XJ (k+ps.length *3:Nat))/\w'.ownsRow base 137 3 (.slice (some ⟨g,0,none⟩) ps.length cap) ps.length (Ab lC (Dw k ps))/\w.grownBy w' (some g):=by
 have H0:Hid _:=h;clear h;go_enter func104,ntmps104;go_wp2
 go_loopw [1,5] (fun v i wr=>∃(j K:Nat) (zs:List Ld),j<=ps.length/\i=XJ j/\v=XJ K/\K=k+j *3/\Hid (zs.length=ps.length/\(∀i,i<j->zs[i]?=(Dw k ps)[i]?)/\wr.ownsRow base 137 3 (.slice (some ⟨g,0,none⟩) ps.length cap) ps.length (Ab lC zs)/\w.grownBy wr (some g))) (fun _ i _=>ps.length -(intOf i).toNat)
 case atStart=>exact⟨0,k,ps,Nat.zero_le _,rfl,rfl,by omega,rfl,(fun i h=>by omega),H0.o,Eb _ _⟩
 case round=>
  clear H0;obtain⟨j,K,zs,hj,rfl,rfl,hK,HM⟩:=hrel;by_cases hlt:j<ps.length
  ·have zG:(j:Int)<ps.length:=by omega
   have HX:Hid (j *3+3<=(Ab lC zs).length):=by show _<=_;have:=HM.o.2.2.1.1;omega
   have zC:Hid _:=hK;have zK:1<=K:=by omega
   have zI:K+3<=100000000:=by omega
   clear hK;have zA:=HX.o;have h2:=HM.o.2.2.1;obtain⟨v2,c2⟩:∃v,wr.cell? (XL g (j *3))=some v:=⟨_,(h2.cellAt (j *3) (by omega)).trans (XD (by omega))⟩;have f2:=h2.frozenAt (j *3);have H3:Hid _:=And.intro (h2.stored (j *3) (XJ K)).1 (Ap HM.o.2.2.2 (h2.stored (j *3) (XJ K)).2);clear h2 zA;go_wp2_with fail;refine(Ck (K+1) _ _ (by omega) (by omega) (by omega)).mono ?_;rintro e w3 ⟨rfl,zB⟩
   have zA:=HX.o;have h3:=Ad H3.o.1 zB;have zE:j *3+3<=((Ab lC zs).set (j *3) (XJ K)).length:=by simpa using zA
   obtain⟨v3,c3⟩:∃v,w3.cell? (XL g (j *3+1))=some v:=⟨_,(h3.cellAt (j *3+1) (by omega)).trans (XD (by omega))⟩;have f3:=h3.frozenAt (j *3+1);obtain⟨v4,c4⟩:∃v,w3.cell? (XL g (j *3+2))=some v:=⟨_,(h3.cellAt (j *3+2) (by omega)).trans (XD (by omega))⟩;have f4:=h3.frozenAt (j *3+2);have zH:=HM.o.1;have s4:=h3.stored (j *3+1) (.string (BH (K+1)));have s5:=s4.1.stored (j *3+2) (XJ ((K:Int)+1+1))
   have h5:=s5.1;rw[Jn (by omega) ⟨K,BH (K+1),(K:Int)+1+1⟩] at h5;have H4:Hid _:=And.intro h5 (Ap H3.o.2 (Ap (Ax _ zB) (Ap s4.2 s5.2)));clear h3 h5 s4 s5 zB c2 f2 zA zE zH;go_wp2;refine⟨⟨j+1,K+1+1+1,zs.set j ⟨K,BH (K+1),(K:Int)+1+1⟩,by omega,by go_num,by go_num,by have:=zC.o;omega,by rw[List.length_set];exact HM.o.1,?_,H4.o.1,H4.o.2⟩,by simp[intOf];omega⟩;intro i hi
   rcases Nat.lt_or_ge i j with h'|h'
   ·rw[List.getElem?_set_ne (by omega)]
    exact HM.o.2.1 i h'
   ·obtain rfl:i=j:=by omega
    rw[List.getElem?_set_self (by have:=HM.o.1;omega),Lh hlt,zC.o];simp
  ·obtain rfl:j=ps.length:=by omega
   subst hK;obtain⟨z1,z2,z3,z4⟩:=HM.o;have zF:zs=Dw k ps:=by
    apply List.ext_getElem?;intro i;rcases Nat.lt_or_ge i ps.length with h|h
    ·exact z2 i h
    ·rw[List.getElem?_eq_none (by omega),List.getElem?_eq_none (by rw[EP];omega)]
   subst zF;have HZ:Hid _:=And.intro z3 z4;clear z1 z2 z3 z4 HM;go_wp2;go_ret;exact⟨rfl,HZ.o.1,HZ.o.2⟩
theorem SR (base g cap k:Nat) (ps:List Pd) (w:World) (h:w.ownsRow base 134 2 (.slice (some ⟨g,0,none⟩) ps.length cap) ps.length (Ab pC (Dv k ps))) (hk:1<=k) (zP:k+ps.length *2<=100000000):
 Calls prog 106 #[.slice (some ⟨g,0,none⟩) ps.length cap,XJ k] w fun e w'=>e=.returned (XJ (k+ps.length *2:Nat))/\Xz w w':=by
 have H0:Hid _:=h;have zE:=(Ac h rfl).2;clear h;go_enter func106,ntmps106;go_wp2
 go_loopw [1,5] (fun v i wr=>∃(j K:Nat),j<=ps.length/\i=XJ j/\v=XJ K/\K=k+j *2/\Xz w wr) (fun _ i _=>ps.length -(intOf i).toNat)
 case atStart=>exact⟨0,k,Nat.zero_le _,rfl,rfl,by omega,Below.refl _ _⟩
 case round=>
  obtain⟨j,K,hj,rfl,rfl,hK,zA⟩:=hrel;have zI:=zA.size;by_cases hlt:j<ps.length
  ·have zK:(j:Int)<ps.length:=by omega
   have h0:w.ownsRow base 134 2 (.slice (some ⟨g,0,none⟩) ps.length cap) ps.length (Ab pC (Dv k ps)):=H0.o;have zJ:=h0.1;have zB:=Lg (k:=k) hlt;rw[←hK] at zB;have c0:w.cell? (XL g (j *2))=some (.string (BH K)):=(h0.cellAt (j *2) (by omega)).trans (Bl BB zB (show 0<2 by decide));have c1:=(h0.cellAt (j *2+1) (by omega)).trans (Bl BB zB (show 1<2 by decide));have zN:Hid _:=hK;have zR:1<=K:=by omega
   have zO:K+2<=100000000:=by omega
   clear hK zJ zB h0;have y0:=(zA.cell (p:=⟨g,j *2,none⟩) zE).trans c0;have q0:=AB.cell y0 (show g<wr.heap.size by omega);have zC:=AB.ne wr;have zG:Hid (∀m:AB wr,Calls prog 49 #[XJ K] m.w fun e w'=>e=.returned (.string (BH K))/\Below m.w.heap.size m.w w'):=fun m=>Ck K _ m.w rfl (by omega) (by omega);have HC:Hid _:=c1;clear c0 c1 y0;go_wp2;refine AE (by kernel_rfl) (by kernel_rfl) ?_
   repeat (go_big_quiet_step (exact AB.calls (zG.o _)))
   refine wpQuiet_nil ?_;intro m;have bm:=zA.trans (m.h.mono zI);have y1:=(bm.cell (p:=⟨g,j *2+1,none⟩) zE).trans HC.o;have zM:=bm.size;generalize m.w=wm at *
   clear q0 zC zG m;have q1:=AB.cell y1 (show g<wm.heap.size by omega);have zC:=AB.ne wm;have zF:Hid (∀m:AB wm,Calls prog 49 #[XJ ((K:Int)+1)] m.w fun e w'=>e=.returned (.string (BH (K+1)))/\Below m.w.heap.size m.w w'):=fun m=>Ck (K+1) _ m.w (by omega) (by omega) (by omega);clear y1;go_wp2;refine AE (by kernel_rfl) (by kernel_rfl) ?_
   repeat (go_big_quiet_step (exact AB.calls (zF.o _)))
   refine wpQuiet_nil ?_;intro m2;have zH:=bm.trans (m2.h.mono zM);clear q1 zC zF;go_wp2;exact⟨⟨j+1,K+1+1,by omega,by go_num,by go_num,by have:=zN.o;omega,zH⟩,by simp[intOf];omega⟩
  ·obtain rfl:j=ps.length:=by omega
   subst hK;go_wp2;go_ret;exact⟨rfl,zA⟩
theorem Pt (base g cap k:Nat) (ps:List Ld) (w:World) (h:w.ownsRow base 137 3 (.slice (some ⟨g,0,none⟩) ps.length cap) ps.length (Ab lC (Dw k ps))) (hk:1<=k) (zM:k+ps.length *3<=100000000):
 Calls prog 107 #[.slice (some ⟨g,0,none⟩) ps.length cap,XJ k] w fun e w'=>e=.returned (XJ (k+ps.length *3:Nat))/\Xz w w':=by
 have H0:Hid _:=h;have zC:=(Ac h rfl).2;clear h;go_enter func107,ntmps107;go_wp2
 go_loopw [1,5] (fun v i wr=>∃(j K:Nat),j<=ps.length/\i=XJ j/\v=XJ K/\K=k+j *3/\Xz w wr) (fun _ i _=>ps.length -(intOf i).toNat)
 case atStart=>exact⟨0,k,Nat.zero_le _,rfl,rfl,by omega,Below.refl _ _⟩
 case round=>
  obtain⟨j,K,hj,rfl,rfl,hK,zA⟩:=hrel;have zG:=zA.size;by_cases hlt:j<ps.length
  ·have zI:(j:Int)<ps.length:=by omega
   have h0:w.ownsRow base 137 3 (.slice (some ⟨g,0,none⟩) ps.length cap) ps.length (Ab lC (Dw k ps)):=H0.o;have zH:=h0.1;have zB:=Lh (k:=k) hlt;rw[←hK] at zB;have c0:w.cell? (XL g (j *3))=some (XJ K):=by
    have:=(h0.cellAt (j *3) (by omega)).trans (Bl Cf zB (show 0<3 by decide));rw[this,hK];simp[lC]
   have c1:=(h0.cellAt (j *3+1) (by omega)).trans (Bl Cf zB (show 1<3 by decide));have c2:w.cell? (XL g (j *3+2))=some (XJ ((K:Int)+1+1)):=by
    have:=(h0.cellAt (j *3+2) (by omega)).trans (Bl Cf zB (show 2<3 by decide));rw[this,hK];simp[lC]
   have zJ:Hid _:=hK;have zN:1<=K:=by omega
   have zK:K+3<=100000000:=by omega
   clear hK zH zB h0;have y0:=(zA.cell (p:=⟨g,j *3,none⟩) zC).trans c0;have y1:=(zA.cell (p:=⟨g,j *3+1,none⟩) zC).trans c1;have q1:=AB.cell y1 (show g<wr.heap.size by omega);have zF:=AB.ne wr;have zE:Hid (∀m:AB wr,Calls prog 49 #[XJ ((K:Int)+1)] m.w fun e w'=>e=.returned (.string (BH (K+1)))/\Below m.w.heap.size m.w w'):=fun m=>Ck (K+1) _ m.w (by omega) (by omega) (by omega);have HC:Hid _:=c2
   clear c0 c1 c2 y1;go_wp2;refine AE (by kernel_rfl) (by kernel_rfl) ?_
   repeat (go_big_quiet_step (exact AB.calls (zE.o _)))
   refine wpQuiet_nil ?_;intro m;have bm:=zA.trans (m.h.mono zG);have y2:=(bm.cell (p:=⟨g,j *3+2,none⟩) zC).trans HC.o;clear q1 zF zE y0;go_wp2;exact⟨⟨j+1,K+1+1+1,by omega,by go_num,by go_num,by have:=zJ.o;omega,bm⟩,by simp[intOf];omega⟩
  ·obtain rfl:j=ps.length:=by omega
   subst hK;go_wp2;go_ret;exact⟨rfl,zA⟩
end Go.Proofs.YtpekbmegopfhfaaGreatDoor
