import Derived.Test.YtpekbmegopfhfaaGreatDoorQ10
import Derived.Test.YtpekbmegopfhfaaGreatDoorQ03
import Derived.Test.YtpekbmegopfhfaaGreatDoorQ04
import Derived.Test.YtpekbmegopfhfaaGreatDoorQ01
import Derived.Test.YtpekbmegopfhfaaGreatDoorQ09
import Derived.Test.YtpekbmegopfhfaaGreatDoorQ05
namespace Go.Proofs.YtpekbmegopfhfaaGreatDoor
open Go.ChangeShapes Go.WideShapes Go.ChangeAt Go.RowKit
def waitL (ls:List Ld) (n:Int):List Ld:=ls.filter (fun x=> !decide (x.til<=n))
set_option maxHeartbeats 1000000 in
theorem wait1_any (x:Ld) (b d:Nat) (n:Int) (w:World) (hc:w.cell? ⟨b,0,none⟩=some (.pointer (some ⟨d,0,none⟩))) (hn:w.cell? ⟨d,2,none⟩=some (.int .i64 n)):
 Calls Tryz.prog 209 #[.agg #[.int .i64 x.num,.string x.sum,.int .i64 x.til],.pointer (some ⟨b,0,none⟩)] w fun e w'=>e=.returned (.bool (decide (x.til<=n)))/\Below w.heap.size w w':=by
 obtain⟨W,hW⟩:∃W,W=w.alloc (.cells #[.int .i64 x.num,.string x.sum,.int .i64 x.til] 137):=⟨_,rfl⟩;have hB:Below w.heap.size w W:=by rw[hW];exact(Below.refl _ _).alloc (Nat.le_refl _) _
 have c0:W.cell? ⟨w.heap.size,2,none⟩=some (.int .i64 x.til):=by rw[hW];simp[go_sem]
 have c1:=(hB.cell (p:=⟨b,0,none⟩) (World.block_lt_of_cell? w _ hc)).trans hc;have c2:=(hB.cell (p:=⟨d,2,none⟩) (World.block_lt_of_cell? w _ hn)).trans hn;have hd:b<W.heap.size/\d<W.heap.size:=⟨World.block_lt_of_cell? W _ c1,World.block_lt_of_cell? W _ c2⟩;have HW:Hid _:=hW;clear hW hc hn;go_enter Tryz.func209,Tryz.ntmps209;go_upto_region 1 with fail;rw[←HW.out];clear HW
 have HB:Hid (Below w.heap.size w W):=hB;clear hB;cases hbb:decide (x.til<=n)
 all_goals
  have HBB:Hid _:=hbb;go_region_with fail
  all_goals
   clear c0 c1 c2;go_wp2;go_ret;exact⟨by rw[HBB.out];rfl,HB.out.drew⟩
def FirstAt (ls:List Ld) (n r:Int):Prop:=(r= -1/\∀x∈ls,n<x.til)∨∃(i:Nat) (x:Ld),r=i/\ls[i]?=some x/\x.til<=n/\∀j y,j<i->ls[j]?=some y->n<y.til
set_option maxHeartbeats 1000000 in
theorem indexWait_any (a:Option Addr) (cap b d:Nat) (n:Int) (ls:List Ld) (w:World) (hrow:LRow w w.heap.size a ls) (hl:ls.length<=1048576) (hc:w.cell? ⟨b,0,none⟩=some (.pointer (some ⟨d,0,none⟩))) (hn:w.cell? ⟨d,2,none⟩=some (.int .i64 n)):
 Calls Tryz.prog 236 #[.slice a ls.length cap,.func (.func 209) #[] #[.pointer (some ⟨b,0,none⟩)]] w fun e w'=>∃r:Int,e=.returned (.int .i64 r)/\FirstAt ls n r/\Below w.heap.size w w':=by
 have hbl:b<w.heap.size:=World.block_lt_of_cell? w _ hc;have hdl:d<w.heap.size:=World.block_lt_of_cell? w _ hn;go_enter Tryz.func236,Tryz.ntmps236;go_wp2
 go_loopw [8] (fun i wr=>∃k:Nat,k<=ls.length/\i=.int .i64 k/\Hid (∀j x,j<k->ls[j]?=some x->n<x.til)/\Below w.heap.size w wr) (fun i _=>ls.length -(intOf i).toNat)
 case atStart=>exact⟨0,Nat.zero_le _,rfl,(fun j x h=>by omega),Below.refl _ _⟩
 case round=>
  obtain⟨k,hk,rfl,hall,hbel⟩:=hrel;have hzr:=hbel.size;by_cases hlt:k<ls.length
  ·obtain⟨b',off,ha,hb,hc'⟩:=(hrow.below hbel).at hlt
   subst ha;have hg:Hid (ls[k]?=some ls[k]):=List.getElem?_eq_getElem hlt;obtain⟨c0,c1,c2⟩:=hc' k _ hg.out;have hcr:=(hbel.cell (p:=⟨b,0,none⟩) hbl).trans hc;have hnr:=(hbel.cell (p:=⟨d,2,none⟩) hdl).trans hn;clear hc' hrow;generalize ls[k]=x at *
   go_wp2_with fail;refine(wait1_any x b d n wr hcr hnr).mono ?_;rintro e w1 ⟨rfl,hb1⟩;have hB1:=hbel.trans (hb1.mono hzr);by_cases h:x.til<=n
   ·have hd:decide (x.til<=n)=true:=by simpa using h
    have HH:Hid (x.til<=n):=h;rw[hd];clear h hd;go_wp2;go_ret;exact⟨_,rfl,.inr ⟨k,x,rfl,hg.out,HH.out,hall.out⟩,hB1⟩
   ·have HA:Hid (∀j y,j<k+1->ls[j]?=some y->n<y.til):=by
     intro j y hj hy;rcases Nat.lt_or_ge j k with h'|h'
     ·exact hall.out j y h' hy
     ·obtain rfl:j=k:=by omega
      rw[hg.out] at hy;cases hy;exact Int.not_le.1 h
    have hd:decide (x.til<=n)=false:=by simpa using h
    rw[hd];clear h hd;go_wp2;exact⟨⟨k+1,by omega,by go_num,HA,hB1⟩,by simp[intOf];omega⟩
  ·go_wp2
   go_ret;refine⟨_,rfl,.inl ⟨rfl,fun x hx=> ?_⟩,hbel⟩;obtain⟨j,hj,rfl⟩:=List.getElem_of_mem hx;exact hall.out j _ (by omega) (List.getElem?_eq_getElem hj)
end Go.Proofs.YtpekbmegopfhfaaGreatDoor
namespace Go.Proofs.YtpekbmegopfhfaaGreatDoor
open Go.ChangeShapes Go.WideShapes Go.ChangeAt Go.RowKit
def refsN (ks:List Kd):Nat:=(ks.map (fun k=>k.refs.length)).sum
theorem refsN_snoc {ks:List Kd} {k:Nat} {x:Kd} (h:ks[k]?=some x):refsN (ks.take (k+1))=refsN (ks.take k)+x.refs.length:=by
 unfold refsN;rw[List.take_add_one,h];simp
theorem refsN_take (ks:List Kd) (k:Nat):refsN (ks.take k)<=refsN ks:=by
 have h:refsN ks=refsN (ks.take k)+refsN (ks.drop k):=by
  unfold refsN;rw[←List.sum_append,←List.map_append,List.take_append_drop]
 omega
theorem szThing_t (t:ByteArray) (a:Option Addr) (cap:Nat) (ss:List ByteArray) (left:Int) (w:World) (hrow:SRow w w.heap.size a ss)
 (ht:t.size<=maxLen) (hl:ss.length<=maxLen) (hs:∀s∈ss,s.size<=maxLen) (h1:0<=left) (h2:left<=1048576):
 Calls Tryz.prog 175 #[.agg #[.string t,.slice a ss.length cap],.int .i64 left] w fun e w'=>∃r:Int,e=.returned (.int .i64 r)/\Below w.heap.size w w'/\r<=left/\(0<=r->ss.length<=1048576/\r<=left -ss.length):=by
 by_cases hfit:(t.size:Int)+ss.length+bulk ss<=left
 ·refine(szThing_yes t a cap ss left w hrow h2 hfit).mono ?_
  rintro e w' ⟨rfl,hb⟩;exact⟨_,rfl,hb,by omega,fun _=>⟨by omega,by omega⟩⟩
 ·refine(szThing_no t a cap ss left w hrow ht hl hs h1 h2 (by omega)).mono ?_
  rintro e w' ⟨rfl,hb⟩;exact⟨_,rfl,hb,by omega,fun h=>by omega⟩
set_option maxHeartbeats 400000 in
theorem szKept_t (k:Kd) (a:Option Addr) (cap:Nat) (left:Int) (w:World) (hrow:SRow w w.heap.size a k.refs)
 (h0:k.sum.size<=maxLen) (ht:k.text.size<=maxLen) (hl:k.refs.length<=maxLen) (hs:∀s∈k.refs,s.size<=maxLen) (h1:0<=left) (h2:left<=1048576):
 Calls Tryz.prog 143 #[.agg #[.string k.sum,.int .i64 k.born,.string k.text,.slice a k.refs.length cap],.int .i64 left] w fun e w'=>∃r:Int,e=.returned (.int .i64 r)/\Below w.heap.size w w'/\r<=left/\(0<=r->k.refs.length<=1048576/\r<=left -k.refs.length):=by
 have hb:Below w.heap.size w (w.alloc (.cells #[.string k.sum,.int .i64 k.born,.string k.text,.slice a k.refs.length cap] 194)):=(Below.refl _ _).alloc (Nat.le_refl _) _;have h0':=h0;unfold maxLen at h0';by_cases hn:left<k.sum.size
 ·go_enter Tryz.func143,Tryz.ntmps143
  go_wp2;go_ret;exact⟨_,rfl,hb,by omega,fun h=>by omega⟩
 ·go_enter Tryz.func143,Tryz.ntmps143
  go_wp2_with fail;refine(szThing_t k.text a cap k.refs _ _ (hrow.below' hb) ht hl hs (by omega) (by omega)).mono ?_;rintro e w1 ⟨r,rfl,hb1,hr,hf⟩;have hB:=hb.trans (hb1.mono (by simp));by_cases h3:r<0
  ·go_wp2
   go_ret;exact⟨_,rfl,hB,by omega,fun h=>by omega⟩
  ·go_wp2
   go_ret;exact⟨_,rfl,hB,by omega,fun h=>⟨(hf (by omega)).1,by have:=(hf (by omega)).2;omega⟩⟩
set_option maxHeartbeats 400000 in
theorem szKeptS_t (a:Option Addr) (cap:Nat) (ks:List Kd) (left:Int) (w:World) (hrow:KRow w w.heap.size a ks) (hm:KMem ks) (h1:0<=left) (h2:left<=1048576):
 Calls Tryz.prog 111 #[.slice a ks.length cap,.int .i64 left] w fun e w'=>∃r:Int,e=.returned (.int .i64 r)/\Below w.heap.size w w'/\r<=left/\(0<=r->ks.length<=1048576/\(∀k∈ks,k.refs.length<=1048576)/\(refsN ks:Int)<=1048576):=by
 have hml:=hm.len;unfold maxLen at hml;by_cases hn:left<ks.length
 ·go_enter Tryz.func111,Tryz.ntmps111
  go_wp2;go_ret;exact⟨_,rfl,Below.refl _ _,by omega,fun h=>by omega⟩
 ·go_enter Tryz.func111,Tryz.ntmps111
  go_wp2
  go_loopw [1,5] (fun l i wr=>∃(k:Nat) (L:Int),k<=ks.length/\i=.int .i64 k/\l=.int .i64 L/\0<=L/\L<=left -refsN (ks.take k)/\Below w.heap.size w wr/\Hid (∀j,j<k->∀x,ks[j]?=some x->x.refs.length<=1048576)) (fun _ i _=>ks.length -(intOf i).toNat)
  case atStart=>exact⟨0,_,Nat.zero_le _,rfl,rfl,by omega,by simp[refsN];omega,Below.refl _ _,fun j h=>by omega⟩
  case round=>
   obtain⟨k,L,hk,rfl,rfl,hL0,hL,hbel,hall⟩:=hrel;by_cases hlt:k<ks.length
   ·obtain⟨b,off,ha,hb,hc⟩:=hrow.at hlt
    subst ha;have hg:ks[k]?=some ks[k]:=List.getElem?_eq_getElem hlt;have hmem:=List.getElem_mem hlt;obtain⟨c0,c1,c2,ra,rc,c3,hrr⟩:=(hc k _ hg).below hbel hb;have m0:=hm.sum _ hmem;have m1:=hm.text _ hmem;have m2:=hm.refs _ hmem;have m3:=hm.ref _ hmem;have HG:Hid _:=hg;have hrn:refsN (ks.take (k+1))=refsN (ks.take k)+ks[k].refs.length:=refsN_snoc hg;clear hc hrow hm hmem hg
    generalize ks[k]=x at *
    have hcon:=szKept_t x ra rc L wr (hrr.mono hbel.size) m0 m1 m2 m3 hL0 (by omega);have HC:Hid _:=hcon;clear hcon m3 hrr;go_wp2_with fail;refine Calls.mono HC.out ?_;rintro e w1 ⟨r,rfl,hb1,hr,hf⟩;have hB:=hbel.trans (hb1.mono hbel.size);by_cases h3:r<0
    ·go_wp2
     go_ret;exact⟨_,rfl,hB,by omega,fun h=>by omega⟩
    ·have HA:Hid (∀j,j<k+1->∀x,ks[j]?=some x->x.refs.length<=1048576):=by
      intro j hj y hy;rcases Nat.lt_or_ge j k with h'|h'
      ·exact hall j h' y hy
      ·obtain rfl:j=k:=by omega
       rw[HG.out] at hy;cases hy;exact(hf (by omega)).1
     have hr2:=(hf (by omega)).2;clear hf hall;go_wp2;exact⟨⟨k+1,_,by omega,by go_num,rfl,by omega,by omega,hB,HA⟩,by simp[intOf];omega⟩
   ·go_wp2
    go_ret;refine⟨_,rfl,hbel,by omega,fun _=>⟨by omega,fun x hx=> ?_,by rw[List.take_of_length_le (by omega)] at hL;omega⟩⟩;obtain⟨j,hj,rfl⟩:=List.getElem_of_mem hx;exact hall j (by omega) _ (List.getElem?_eq_getElem hj)
set_option maxHeartbeats 400000 in
theorem szState_t (wd now given births:Int) (a p l:Option Addr) (ac pc lc:Nat) (ks:List Kd) (ps:List Pd) (ls:List Ld) (left:Int) (w:World) (hrow:SRows w w.heap.size a p l ks ps ls)
 (hk:KMem ks) (hp:PMem ps) (hl:LMem ls) (h1:0<=left) (h2:left<=1048576):
 Calls Tryz.prog 65 #[.agg #[.int .i64 wd,.int .i64 now,.int .i64 given,.int .i64 births,.slice a ks.length ac,.slice p ps.length pc,.slice l ls.length lc],.int .i64 left] w fun e w'=>∃r:Int,e=.returned (.int .i64 r)/\Below w.heap.size w w'/\r<=left/\(0<=r->SFit ks ps ls/\refsN ks<=1048576):=by
 have hb:Below w.heap.size w (w.alloc (.cells #[.int .i64 wd,.int .i64 now,.int .i64 given,.int .i64 births,.slice a ks.length ac,.slice p ps.length pc,.slice l ls.length lc] 57)):=(Below.refl _ _).alloc (Nat.le_refl _) _;have hx:=SBox.new w wd now given births (.slice a ks.length ac) (.slice p ps.length pc) (.slice l ls.length lc) 57;go_enter Tryz.func65,Tryz.ntmps65;go_wp2_with fail
 refine(szKeptS_t a ac ks _ _ (hrow.below' hb).k hk (by omega) (by omega)).mono ?_;rintro e w1 ⟨r,rfl,hb1,hr,hf1⟩;have hB:=hb.trans (hb1.mono (by simp));obtain⟨_,_,_,_,_,x5,x6,x7⟩:=hx.below hb1;have hz:=hb1.size;clear hb1;by_cases h3:r<0
 ·go_wp2
  go_ret;exact⟨_,rfl,hB,by omega,fun h=>by omega⟩
 ·go_wp2_with fail
  refine(szPinS_any p pc ps _ _ (hrow.below' hB).p hp (by omega) (by omega)).mono ?_;rintro e w2 ⟨r2,rfl,hb2,hr2,hf2⟩;have hB2:=hB.trans (hb2.mono hB.size);replace x6:=(hb2.cell (p:=⟨w.heap.size,6,none⟩) x7).trans x6;have hz2:=hb2.size;clear hb2 x5;by_cases h4:r2<0
  ·go_wp2
   go_ret;exact⟨_,rfl,hB2,by omega,fun h=>by omega⟩
  ·go_wp2_with fail
   refine(szLeaseS_any l lc ls _ _ (hrow.below' hB2).l hl (by omega) (by omega)).mono ?_;rintro e w3 ⟨r3,rfl,hb3,hr3,hf3⟩;have hB3:=hB2.trans (hb3.mono hB2.size);by_cases h5:r3<0
   ·go_wp2
    go_ret;exact⟨_,rfl,hB3,by omega,fun h=>by omega⟩
   ·go_wp2
    go_ret;exact⟨_,rfl,hB3,by omega,fun _=>⟨⟨(hf1 (by omega)).1,(hf1 (by omega)).2.1,hf2 (by omega),hf3 (by omega)⟩,by have:=(hf1 (by omega)).2.2;omega⟩⟩
end Go.Proofs.YtpekbmegopfhfaaGreatDoor
namespace Go.Proofs.YtpekbmegopfhfaaGreatDoor
open Go.ChangeShapes Go.WideShapes Go.ChangeAt Go.RowKit
def Alive (w w':World):Prop:=∀b o,(w.cell? ⟨b,o,none⟩).isSome=true->(w'.cell? ⟨b,o,none⟩).isSome=true/\(w.frozen? ⟨b,o,none⟩=false->w'.frozen? ⟨b,o,none⟩=false)
theorem Alive.refl (w:World):Alive w w:=fun _ _ h=>⟨h,fun h=>h⟩
theorem Alive.trans {a b c:World} (h1:Alive a b) (h2:Alive b c):Alive a c:=fun p o h=>⟨(h2 p o (h1 p o h).1).1,fun hf=>(h2 p o (h1 p o h).1).2 ((h1 p o h).2 hf)⟩
theorem Alive.of_below {w w':World} (h:Below w.heap.size w w'):Alive w w':=fun b o hs=>by
 obtain⟨v,hv⟩:=Option.isSome_iff_exists.1 hs;have hb:b<w.heap.size:=World.block_lt_of_cell? w ⟨b,o,none⟩ hv;rw[h.cell (p:=⟨b,o,none⟩) hb,h.frozen (p:=⟨b,o,none⟩) hb];exact⟨hs,fun h=>h⟩
theorem Alive.setCell (w:World) (g p:Nat) (v:Value):Alive w (w.setCell ⟨g,p,none⟩ v):=fun b o hs=>by
 refine⟨?_,fun h=>by simpa [go_sem] using h⟩;by_cases e:(⟨b,o,none⟩:Addr)=⟨g,p,none⟩
 ·rw[←e,World.cell?_setCell_same' _ _ _ hs]
  rfl
 ·rw[World.cell?_setCell_other _ _ _ _ (fun e'=>e e'.symm)]
  exact hs
def Wr (w:World) (q n:Nat):Prop:=∀j,j<n->(w.cell? ⟨q,j,none⟩).isSome=true/\w.frozen? ⟨q,j,none⟩=false
theorem Wr.alive {w w':World} {q n:Nat} (h:Wr w q n) (ha:Alive w w'):Wr w' q n:=fun j hj=>⟨(ha q j (h j hj).1).1,(ha q j (h j hj).1).2 (h j hj).2⟩
theorem Wr.at {w:World} {q n j:Nat} (h:Wr w q n) (hj:j<n):∃v,w.cell? ⟨q,j,none⟩=some v:=Option.isSome_iff_exists.1 (h j hj).1
theorem Wr.own {w:World} {base g n cap size:Nat} {e:TypeId} {xs:List Value} (h:w.ownsRow base e size (.slice (some ⟨g,0,none⟩) n cap) n xs):Wr w g (n *size):=fun j hj=>by
 have hl:=h.1;refine⟨?_,h.frozenAt j⟩;rw[h.cellAt j (by omega),List.getElem?_eq_getElem (by omega)];rfl
theorem grown_set (w:World) (g p:Nat) (v:Value):w.grownBy (w.setCell ⟨g,p,none⟩ v) (some g):=
 ⟨rfl,rfl,rfl,by simp,fun i _ hi=>Below.heap_setCell _ _ _ _ (fun e=>hi (by rw[e]))⟩
set_option maxHeartbeats 400000 in
theorem markS_wr (q n cap k:Nat) (w:World) (h:Wr w q n) (hk:1<=k) (hkn:k+n<=100000000):
 Calls Tryz.prog 15 #[.slice (some ⟨q,0,none⟩) n cap,.int .i64 k] w fun e w'=>e=.returned (.int .i64 (k+n))/\w.grownBy w' (some q)/\Alive w w':=by
 go_enter Tryz.func15,Tryz.ntmps15;go_wp2
 go_loopw [1,5] (fun v i wr=>∃(j:Nat),j<=n/\i=.int .i64 j/\v=.int .i64 (k+j)/\Hid (Wr wr q n)/\w.grownBy wr (some q)/\Alive w wr) (fun _ i _=>n -(intOf i).toNat)
 case atStart=>exact⟨0,Nat.zero_le _,rfl,by simp,h,grown_refl _ _,Alive.refl _⟩
 case round=>
  clear h;obtain⟨j,hj,rfl,rfl,HW,hgrow,hal⟩:=hrel;by_cases hlt:j<n
  ·have hcall:=markText_any (k+j) wr (by omega) (by omega)
   rw[show((k+j:Nat):Int)=(k:Int)+j from by omega] at hcall;have hlt':(j:Int)<n:=by omega
   go_wp2_with fail;refine hcall.mono ?_;rintro e w2 ⟨rfl,hb2⟩;have hw2:=Wr.alive HW.out (Alive.of_below hb2);obtain⟨v,hcc⟩:=hw2.at hlt;have hff:=(hw2 j hlt).2
   have HH:Hid _:=And.intro (hw2.alive (Alive.setCell w2 q j (.string (mkT (k+j))))) (And.intro (grown_trans hgrow (grown_trans (grown_below _ hb2) (grown_set w2 q j (.string (mkT (k+j)))))) (hal.trans ((Alive.of_below hb2).trans (Alive.setCell w2 q j (.string (mkT (k+j)))))));clear hgrow hcall hal HW hw2 hb2;go_wp2
   exact⟨⟨j+1,by omega,by go_num,by go_num,HH.out.1,HH.out.2.1,HH.out.2.2⟩,by simp[intOf];omega⟩
  ·obtain rfl:j=n:=by omega
   go_wp2;go_ret;exact⟨rfl,hgrow,hal⟩
theorem markText_at (K:Nat) (z:Int) (w:World) (hz:z=K) (hk:1<=K) (hk2:K<=1000000000):
 Calls Tryz.prog 49 #[.int .i64 z] w fun e w'=>e=.returned (.string (mkT K))/\Below w.heap.size w w':=by
 subst hz;exact markText_any K w hk hk2
def MSt (w wr:World) (g n:Nat):Prop:=Wr wr g n/\w.grownBy wr (some g)/\Alive w wr
theorem MSt.new {w:World} {g n:Nat} (h:Wr w g n):MSt w w g n:=⟨h,grown_refl _ _,Alive.refl _⟩
theorem MSt.below {w wr w2:World} {g n:Nat} (h:MSt w wr g n) (hb:Below wr.heap.size wr w2):MSt w w2 g n:=
 ⟨h.1.alive (Alive.of_below hb),grown_trans h.2.1 (grown_below _ hb),h.2.2.trans (Alive.of_below hb)⟩
theorem MSt.set {w wr:World} {g n:Nat} (h:MSt w wr g n) (o:Nat) (v:Value):MSt w (wr.setCell ⟨g,o,none⟩ v) g n:=
 ⟨h.1.alive (Alive.setCell _ _ _ _),grown_trans h.2.1 (grown_set _ _ _ _),h.2.2.trans (Alive.setCell _ _ _ _)⟩
set_option maxHeartbeats 2000000 in
theorem markPinS_any (g n cap k:Nat) (w:World) (h:Wr w g (n *2)) (hk:1<=k) (hkn:k+n *2<=100000000):
 Calls Tryz.prog 103 #[.slice (some ⟨g,0,none⟩) n cap,.int .i64 k] w fun e w'=>(∃K:Nat,e=.returned (.int .i64 K)/\k<=K/\K<=k+n *2)/\w.grownBy w' (some g)/\Alive w w':=by
 go_enter Tryz.func103,Tryz.ntmps103;go_wp2
 go_loopw [1,5] (fun v i wr=>∃(j K:Nat),j<=n/\i=.int .i64 j/\v=.int .i64 K/\k<=K/\K<=k+j *2/\Hid (MSt w wr g (n *2))) (fun _ i _=>n -(intOf i).toNat)
 case atStart=>exact⟨0,k,Nat.zero_le _,rfl,rfl,Nat.le_refl _,by omega,MSt.new h⟩
 case round=>
  clear h;obtain⟨j,K,hj,rfl,rfl,hK1,hK2,HM⟩:=hrel;by_cases hlt:j<n
  ·have hlt':(j:Int)<n:=by omega
   have hjn:j *2+2<=n *2:=by omega
   go_wp2_with fail;refine(markText_at K _ _ rfl (by omega) (by omega)).mono ?_;rintro e w2 ⟨rfl,hb2⟩;have h2:=MSt.below HM.out hb2;obtain⟨v2,c2⟩:=h2.1.at (j:=j *2) (by omega);have f2:=(h2.1 (j *2) (by omega)).2;have HM:Hid _:=h2.set (j *2) (.string (mkT K));clear h2 hb2;go_wp2_with fail;refine(markText_at (K+1) _ _ (by omega) (by omega) (by omega)).mono ?_;rintro e w3 ⟨rfl,hb3⟩
   have h3:=MSt.below HM.out hb3;obtain⟨v3,c3⟩:=h3.1.at (j:=j *2+1) (by omega);have f3:=(h3.1 (j *2+1) (by omega)).2;have HM:Hid _:=h3.set (j *2+1) (.string (mkT (K+1)));clear h3 hb3 c2 f2;go_wp2;exact⟨⟨j+1,K+1+1,by omega,by go_num,by go_num,by omega,by omega,HM⟩,by simp[intOf];omega⟩
  ·obtain rfl:j=n:=by omega
   go_wp2;go_ret;exact⟨⟨K,rfl,hK1,hK2⟩,HM.out.2.1,HM.out.2.2⟩
set_option maxHeartbeats 2000000 in
theorem markLeaseS_any (g n cap k:Nat) (w:World) (h:Wr w g (n *3)) (hk:1<=k) (hkn:k+n *3<=100000000):
 Calls Tryz.prog 104 #[.slice (some ⟨g,0,none⟩) n cap,.int .i64 k] w fun e w'=>(∃K:Nat,e=.returned (.int .i64 K)/\k<=K/\K<=k+n *3)/\w.grownBy w' (some g)/\Alive w w':=by
 go_enter Tryz.func104,Tryz.ntmps104;go_wp2
 go_loopw [1,5] (fun v i wr=>∃(j K:Nat),j<=n/\i=.int .i64 j/\v=.int .i64 K/\k<=K/\K<=k+j *3/\Hid (MSt w wr g (n *3))) (fun _ i _=>n -(intOf i).toNat)
 case atStart=>exact⟨0,k,Nat.zero_le _,rfl,rfl,Nat.le_refl _,by omega,MSt.new h⟩
 case round=>
  clear h;obtain⟨j,K,hj,rfl,rfl,hK1,hK2,HM⟩:=hrel;by_cases hlt:j<n
  ·have hlt':(j:Int)<n:=by omega
   have hjn:j *3+3<=n *3:=by omega
   obtain⟨v1,c1⟩:=HM.out.1.at (j:=j *3) (by omega);have f1:=(HM.out.1 (j *3) (by omega)).2;have HM:Hid _:=MSt.set HM.out (j *3) (.int .i64 K);go_wp2_with fail;refine(markText_at (K+1) _ _ (by omega) (by omega) (by omega)).mono ?_;rintro e w3 ⟨rfl,hb3⟩;have h3:=MSt.below HM.out hb3;obtain⟨v3,c3⟩:=h3.1.at (j:=j *3+1) (by omega);have f3:=(h3.1 (j *3+1) (by omega)).2
   have h4:=h3.set (j *3+1) (.string (mkT (K+1)));obtain⟨v4,c4⟩:=h3.1.at (j:=j *3+2) (by omega);have f4:=(h3.1 (j *3+2) (by omega)).2;have HM:Hid _:=h4.set (j *3+2) (.int .i64 ((K:Int)+1+1));clear h3 h4 hb3 c1 f1;go_wp2;exact⟨⟨j+1,K+1+1+1,by omega,by go_num,by go_num,by omega,by omega,HM⟩,by simp[intOf];omega⟩
  ·obtain rfl:j=n:=by omega
   go_wp2;go_ret;exact⟨⟨K,rfl,hK1,hK2⟩,HM.out.2.1,HM.out.2.2⟩
structure KSt (w wr:World) (lo N g:Nat) (ks:List Kd):Prop where
 row:Wr wr g (ks.length *4)
 bel:Below lo w wr
 al:Alive w wr
 far:∀k,N<=k->k<w.heap.size->wr.heap[k]?=w.heap[k]?
 refs:∀i x,ks[i]?=some x->∃q c,wr.cell? ⟨g,i *4+3,none⟩=some (.slice (some ⟨q,0,none⟩) x.refs.length c)/\g<q/\q<N/\Wr wr q x.refs.length
theorem KSt.new {w0 w:World} {lo g:Nat} {ks:List Kd} (h:KOwn w0 lo g ks) (hb:Below w0.heap.size w0 w):KSt w w lo w0.heap.size g ks:=by
 obtain⟨xs,ho,hk⟩:=h;have hg:=(ho.lt g rfl).2;refine⟨(Wr.own ho).alive (Alive.of_below hb),Below.refl _ _,Alive.refl _,fun _ _ _=>rfl,fun i x hx=> ?_⟩;have hi:=(List.getElem?_eq_some_iff.1 hx).1;obtain⟨_,_,_,q,h3,h4⟩:=hk i x hx;refine⟨q,_,(hb.cell (p:=⟨g,i *4+3,none⟩) hg).trans ((ho.cellAt _ (by omega)).trans h3),(World.ownsRow.lt h4 q rfl).1,(World.ownsRow.lt h4 q rfl).2,?_⟩
 have:=(Wr.own h4).alive (Alive.of_below hb);rwa[Nat.mul_one] at this
theorem KSt.below {w wr w2:World} {lo N g:Nat} {ks:List Kd} (h:KSt w wr lo N g ks) (hlo:lo<=wr.heap.size) (hb:Below wr.heap.size wr w2):KSt w w2 lo N g ks:=
 ⟨h.row.alive (Alive.of_below hb),h.bel.trans (hb.mono hlo),h.al.trans (Alive.of_below hb),fun k h1 h2=>(hb.block k (Nat.lt_of_lt_of_le h2 h.bel.size)).trans (h.far k h1 h2),fun i x hx=>by
  obtain⟨q,c,h1,h2,h2',h3⟩:=h.refs i x hx;exact⟨q,c,(hb.cell (p:=⟨g,i *4+3,none⟩) (World.block_lt_of_cell? wr ⟨g,i *4+3,none⟩ h1)).trans h1,h2,h2',h3.alive (Alive.of_below hb)⟩⟩
theorem KSt.set {w wr:World} {lo N g:Nat} {ks:List Kd} (h:KSt w wr lo N g ks) (hlo:lo<=g) (hN:g<N) (j c:Nat) (hc:c<=2) (v:Value):KSt w (wr.setCell ⟨g,j *4+c,none⟩ v) lo N g ks:=
 ⟨h.row.alive (Alive.setCell _ _ _ _),h.bel.setCell (p:=⟨g,j *4+c,none⟩) (by simpa using hlo) _,h.al.trans (Alive.setCell _ _ _ _),fun k h1 h2=>((grown_set wr g (j *4+c) v).block k (Nat.lt_of_lt_of_le h2 h.bel.size) (by intro e;cases e;omega)).trans (h.far k h1 h2),fun i x hx=>by
  obtain⟨q,d,h1,h2,h2',h3⟩:=h.refs i x hx;refine⟨q,d,?_,h2,h2',h3.alive (Alive.setCell _ _ _ _)⟩;rw[World.cell?_setCell_other _ _ _ _ (by intro e;injection e;omega)];exact h1⟩
theorem KSt.grown {w wr w2:World} {lo N g q:Nat} {ks:List Kd} (h:KSt w wr lo N g ks) (hlo:lo<=wr.heap.size) (hg:wr.grownBy w2 (some q)) (ha:Alive wr w2) (hq:g<q) (hqN:q<N) (hl:lo<=g):KSt w w2 lo N g ks:=
 ⟨h.row.alive ha,h.bel.grown hg hlo (fun k hk=>by cases hk;omega),h.al.trans ha,fun k h1 h2=>(hg.block k (Nat.lt_of_lt_of_le h2 h.bel.size) (by intro e;cases e;omega)).trans (h.far k h1 h2),fun i x hx=>by
  obtain⟨q',d,h1,h2,h2',h3⟩:=h.refs i x hx;exact⟨q',d,hg.cell h1 (by simp;omega),h2,h2',h3.alive ha⟩⟩
set_option maxHeartbeats 4000000 in
theorem markKeptS_any (lo g cap k:Nat) (ks:List Kd) (w0 w:World) (h:KOwn w0 lo g ks) (hb0:Below w0.heap.size w0 w) (hlo:lo<=g) (hlw:lo<=w.heap.size) (hk:1<=k) (hkn:k+ks.length *3+refsN ks<=100000000):
 Calls Tryz.prog 102 #[.slice (some ⟨g,0,none⟩) ks.length cap,.int .i64 k] w fun e w'=>(∃K:Nat,e=.returned (.int .i64 K)/\k<=K/\K<=k+ks.length *3+refsN ks)/\Below lo w w'/\Alive w w'/\∀k,w0.heap.size<=k->k<w.heap.size->w'.heap[k]?=w.heap[k]?:=by
 have h0:=KSt.new h hb0;have hN:g<w0.heap.size:=by obtain⟨_,ho,_⟩:=h;exact(ho.lt g rfl).2
 generalize w0.heap.size=N at *
 clear h hb0;go_enter Tryz.func102,Tryz.ntmps102;go_wp2
 go_loopw [1,5] (fun v i wr=>∃(j K:Nat),j<=ks.length/\i=.int .i64 j/\v=.int .i64 K/\k<=K/\K<=k+j *3+refsN (ks.take j)/\Hid (KSt w wr lo N g ks)) (fun _ i _=>ks.length -(intOf i).toNat)
 case atStart=>exact⟨0,k,Nat.zero_le _,rfl,rfl,Nat.le_refl _,by omega,h0⟩
 case round=>
  clear h0;obtain⟨j,K,hj,rfl,rfl,hK1,hK2,HM⟩:=hrel;have hrt:=refsN_take ks j;by_cases hlt:j<ks.length
  ·have hlt':(j:Int)<ks.length:=by omega
   have hjn:j *4+4<=ks.length *4:=by omega
   have hg:ks[j]?=some ks[j]:=List.getElem?_eq_getElem hlt;have hrn:=refsN_snoc hg;have hrt2:=refsN_take ks (j+1);generalize ks[j]=x at *
   have HG:Hid _:=hg;clear hg;have hs1:lo<=wr.heap.size:=Nat.le_trans hlw HM.out.bel.size;go_wp2_with fail;refine(markText_at K _ _ rfl (by omega) (by omega)).mono ?_;rintro e w2 ⟨rfl,hb2⟩;have h2:=KSt.below HM.out hs1 hb2;have hs2:lo<=w2.heap.size:=Nat.le_trans hs1 hb2.size;obtain⟨v2,c2⟩:=h2.row.at (j:=j *4) (by omega);have f2:=(h2.row (j *4) (by omega)).2
   obtain⟨v3,c3⟩:=h2.row.at (j:=j *4+1) (by omega);have f3:=(h2.row (j *4+1) (by omega)).2;have h3:=(h2.set hlo hN j 0 (by omega) (.string (mkT K))).set hlo hN j 1 (by omega) (.int .i64 ((K:Int)+1));rw[Nat.add_zero] at h3;have HM:Hid _:=h3;clear h2 h3 hb2;go_wp2_with fail;refine(markText_at (K+1+1) _ _ (by omega) (by omega) (by omega)).mono ?_;rintro e w4 ⟨rfl,hb4⟩
   have h4:=KSt.below HM.out (by simpa using hs2) hb4;have hs4:lo<=w4.heap.size:=Nat.le_trans hs2 (by have:=hb4.size;simpa using this);obtain⟨v4,c4⟩:=h4.row.at (j:=j *4+2) (by omega);have f4:=(h4.row (j *4+2) (by omega)).2;obtain⟨q,qc,c5,hq,hqN,hwq⟩:=h4.refs j x HG.out;have HM:Hid _:=h4.set hlo hN j 2 (by omega) (.string (mkT (K+1+1)))
   have HQ:Hid _:=hwq.alive (Alive.setCell w4 g (j *4+2) (.string (mkT (K+1+1))));clear h4 hb4 c2 f2 c3 f3 hwq;have hcall:=markS_wr q x.refs.length qc (K+1+1+1) (w4.setCell ⟨g,j *4+2,none⟩ (.string (mkT (K+1+1)))) HQ.out (by omega) (by omega);rw[show((K+1+1+1:Nat):Int)=(K:Int)+1+1+1 from by omega] at hcall;have HC:Hid _:=hcall;clear hcall HQ;go_wp2_with fail;refine Calls.mono HC.out ?_
   rintro e w5 ⟨rfl,hg5,ha5⟩;have HM:Hid _:=KSt.grown HM.out (by simpa using hs4) hg5 ha5 hq hqN hlo;clear hg5 ha5 HC c4 f4 c5;go_wp2;exact⟨⟨j+1,K+1+1+1+x.refs.length,by omega,by go_num,by go_num,by omega,by omega,HM⟩,by simp[intOf];omega⟩
  ·obtain rfl:j=ks.length:=by omega
   rw[List.take_of_length_le (Nat.le_refl _)] at hK2;go_wp2;go_ret;exact⟨⟨K,rfl,hK1,hK2⟩,HM.out.bel,HM.out.al,HM.out.far⟩
set_option maxHeartbeats 2000000 in
theorem markState_any (wd now given births:Int) (lo g p l k:Nat) (ks:List Kd) (ps:List Pd) (ls:List Ld) (w0 w:World) (h:SOwn w0 lo g p l ks ps ls) (hb0:Below w0.heap.size w0 w) (hf:SFit ks ps ls) (hrn:refsN ks<=1048576) (hk:1<=k) (hk2:k<=1000):
 Calls Tryz.prog 50 #[.agg #[.int .i64 wd,.int .i64 now,.int .i64 given,.int .i64 births,.slice (some ⟨g,0,none⟩) ks.length ks.length,.slice (some ⟨p,0,none⟩) ps.length ps.length,.slice (some ⟨l,0,none⟩) ls.length ls.length],.int .i64 k] w fun e w'=>
  (∃K:Nat,e=.returned (.int .i64 K)/\k<=K/\K<=20000000)/\Below lo w w'/\Alive w w'/\∀k,w0.heap.size<=k->k<w.heap.size->w'.heap[k]?=w.heap[k]?:=by
 have hk1:=hf.k;have hp1:=hf.p;have hl1:=hf.l;have hb:Below w.heap.size w (w.alloc (.cells #[.int .i64 wd,.int .i64 now,.int .i64 given,.int .i64 births,.slice (some ⟨g,0,none⟩) ks.length ks.length,.slice (some ⟨p,0,none⟩) ps.length ps.length,.slice (some ⟨l,0,none⟩) ls.length ls.length] 28)):=(Below.refl _ _).alloc (Nat.le_refl _) _
 have hx:=SBox.new w wd now given births (.slice (some ⟨g,0,none⟩) ks.length ks.length) (.slice (some ⟨p,0,none⟩) ps.length ps.length) (.slice (some ⟨l,0,none⟩) ls.length ls.length) 28;obtain⟨xp,hop,_⟩:=h.p;obtain⟨xl,hol,_⟩:=h.l;obtain⟨xk,hok,hkc⟩:=h.k;have lg:=hok.lt g rfl;have lp:=hop.lt p rfl;have ll:=hol.lt l rfl;have hbb:=hb0.trans (hb.mono hb0.size)
 have wp0:=(Wr.own hop).alive (Alive.of_below hbb);have wl0:=(Wr.own hol).alive (Alive.of_below hbb);have hz0:=hb0.size;have hko:=h.k;clear hop hol hok hkc h;go_enter Tryz.func50,Tryz.ntmps50;go_wp2_with fail;refine(markKeptS_any lo g ks.length k ks w0 _ hko hbb lg.1 (by simp;omega) hk (by omega)).mono ?_;rintro e w1 ⟨⟨K1,rfl,hK1,hK1'⟩,hb1,ha1,hf1⟩;obtain⟨y0,y1,y2,y3,y4,y5,y6,y7⟩:=hx
 have hz1:=hb1.size;simp at hz1;have c5:=(World.cell?_of_block (a:=⟨w.heap.size,5,none⟩) (hf1 w.heap.size hz0 (by simp))).trans y5;have c6:=(World.cell?_of_block (a:=⟨w.heap.size,6,none⟩) (hf1 w.heap.size hz0 (by simp))).trans y6;have wp1:=wp0.alive ha1;have wl1:=wl0.alive ha1
 have HB1:Hid (Below lo w w1/\Alive w w1/\∀k,w0.heap.size<=k->k<w.heap.size->w1.heap[k]?=w.heap[k]?):=⟨(hb.mono (by omega)).trans hb1,(Alive.of_below hb).trans ha1,fun j h1 h2=>(hf1 j h1 (by simp;omega)).trans (hb.block j h2)⟩;have HP:Hid _:=And.intro wp1 wl1;clear y0 y1 y2 y3 y4 y5 y6 y7 wp0 wl0 hb1 ha1 hf1 hb hbb hko wp1 wl1;go_wp2_with fail
 refine(markPinS_any p ps.length ps.length K1 w1 HP.out.1 (by omega) (by omega)).mono ?_;rintro e w2 ⟨⟨K2,rfl,hK2,hK2'⟩,hg2,ha2⟩;have hz2:=hg2.size;have c7:=hg2.cell c6 (by simp;omega)
 have HB2:Hid (Below lo w w2/\Alive w w2/\∀k,w0.heap.size<=k->k<w.heap.size->w2.heap[k]?=w.heap[k]?):=⟨HB1.out.1.grown hg2 (by omega) (fun j hj=>by cases hj;omega),HB1.out.2.1.trans ha2,fun j h1 h2=>(hg2.block j (by omega) (by intro e;cases e;omega)).trans (HB1.out.2.2 j h1 h2)⟩;have HL:Hid _:=HP.out.2.alive ha2;clear hg2 ha2 HB1 HP c5 c6;go_wp2_with fail
 refine(markLeaseS_any l ls.length ls.length K2 w2 HL.out (by omega) (by omega)).mono ?_;rintro e w3 ⟨⟨K3,rfl,hK3,hK3'⟩,hg3,ha3⟩;have hz3:=hg3.size
 have HB3:Hid (Below lo w w3/\Alive w w3/\∀k,w0.heap.size<=k->k<w.heap.size->w3.heap[k]?=w.heap[k]?):=⟨HB2.out.1.grown hg3 (by omega) (fun j hj=>by cases hj;omega),HB2.out.2.1.trans ha3,fun j h1 h2=>(hg3.block j (by omega) (by intro e;cases e;omega)).trans (HB2.out.2.2 j h1 h2)⟩;clear hg3 ha3 HB2 HL c7;go_wp2;go_ret;exact⟨⟨K3,rfl,by omega,by omega⟩,HB3.out.1,HB3.out.2.1,HB3.out.2.2⟩
end Go.Proofs.YtpekbmegopfhfaaGreatDoor
namespace Go.Proofs.YtpekbmegopfhfaaGreatDoor
open Go.ChangeShapes Go.WideShapes Go.ChangeAt Go.RowKit
def markX (k:Nat) (x:Kd):Kd:=⟨mkT k,(k:Int)+1,mkT (k+1+1),marks (k+1+1+1) x.refs.length⟩
def markK:Nat->List Kd->List Kd
 |_,[]=>[]
 |k,x::xs=>markX k x::markK (k+3+x.refs.length) xs
theorem markK_length:∀(k:Nat) (xs:List Kd),(markK k xs).length=xs.length
 |_,[]=>rfl
 |k,x::xs=>by simp[markK,markK_length _ xs]
theorem refsN_cons (x:Kd) (xs:List Kd):refsN (x::xs)=x.refs.length+refsN xs:=by simp[refsN]
theorem markK_append:∀(k:Nat) (xs ys:List Kd),markK k (xs++ys)=markK k xs++markK (k+xs.length *3+refsN xs) ys
 |k,[],ys=>by simp[markK,refsN]
 |k,x::xs,ys=>by
  simp only[List.cons_append,markK,markK_append _ xs ys];congr 3;rw[refsN_cons,List.length_cons];omega
theorem markK_step {k j:Nat} {ks:List Kd} {x:Kd} (hx:ks[j]?=some x):markK k (ks.take (j+1))++ks.drop (j+1)=(markK k (ks.take j)++ks.drop j).set j (markX (k+j *3+refsN (ks.take j)) x):=by
 obtain⟨hlt,rfl⟩:=List.getElem?_eq_some_iff.1 hx;have hl:(markK k (ks.take j)).length=j:=by rw[markK_length,List.length_take];omega
 have hl2:(ks.take j).length=j:=by rw[List.length_take];omega
 rw[List.take_succ_eq_append_getElem hlt,markK_append,hl2,List.set_append_right _ _ (by omega),hl,Nat.sub_self,List.drop_eq_getElem_cons hlt,List.set_cons_zero,List.append_assoc];rfl
structure KAns (w:World) (base:Nat) (T:Value) (rs:List Value) (ks:List Kd):Prop where
 len:rs.length=ks.length
 things:w.ownsRow base 114 4 T ks.length (rowC kC (ks.zip rs))
 refs:∀(i:Nat) (k:Kd) (r:Value),ks[i]?=some k->rs[i]?=some r->w.ownsRow base 9 1 r k.refs.length (k.refs.map Value.string)
 nd:(T.ownBlock.toList++rs.filterMap Value.ownBlock).Nodup
theorem nd_idx {f:Value->Option Nat}:∀{rs:List Value},(rs.filterMap f).Nodup->∀{i j:Nat} {a b:Value} {g:Nat},rs[i]?=some a->rs[j]?=some b->f a=some g->f b=some g->i=j
 |[],_,i,_,_,_,_,h,_,_,_=>by simp at h
 |r::rs,h,0,0,_,_,_,_,_,_,_=>rfl
 |r::rs,h,0,j+1,a,b,g,ha,hb,hfa,hfb=>by
  simp at ha hb;subst ha;rw[List.filterMap_cons_some hfa] at h;exact absurd (List.mem_filterMap.2 ⟨b,List.mem_of_getElem? hb,hfb⟩) (List.nodup_cons.1 h).1
 |r::rs,h,i+1,0,a,b,g,ha,hb,hfa,hfb=>by
  simp at ha hb;subst hb;rw[List.filterMap_cons_some hfb] at h;exact absurd (List.mem_filterMap.2 ⟨a,List.mem_of_getElem? ha,hfa⟩) (List.nodup_cons.1 h).1
 |r::rs,h,i+1,j+1,a,b,g,ha,hb,hfa,hfb=>by
  simp at ha hb;have:(rs.filterMap f).Nodup:=by
   cases hr:f r with
   |none=>rw[List.filterMap_cons_none hr] at h;exact h
   |some q=>rw[List.filterMap_cons_some hr] at h;exact(List.nodup_cons.1 h).2
  rw[nd_idx this ha hb hfa hfb]
theorem row_set3:∀{zs:List (Kd×Value)} {i:Nat} {x:Kd} {r:Value},zs[i]?=some (x,r)->∀y:Kd,(((rowC kC zs).set (i *4) (.string y.sum)).set (i *4+1) (.int .i64 y.born)).set (i *4+2) (.string y.text)=rowC kC (zs.set i (y,r))
 |[],i,_,_,h,_=>by simp at h
 |z::zs,0,x,r,h,y=>by
  simp at h;subst h;simp[rowC,kC]
 |z::zs,i+1,x,r,h,y=>by
  have h':zs[i]?=some (x,r):=by simpa using h
  have ih:=row_set3 h' y;have e:rowC kC (z::zs)=kC z++rowC kC zs:=by simp[rowC]
  have e2:rowC kC ((z::zs).set (i+1) (y,r))=kC z++rowC kC (zs.set i (y,r)):=by simp[rowC]
  rw[e,e2,←ih,show(i+1) *4=(kC z).length+i *4 by rw[kC_len4];omega];rw[List.set_append_right _ _ (by omega),Nat.add_sub_cancel_left,show(kC z).length+i *4+1=(kC z).length+(i *4+1) by omega,List.set_append_right _ _ (by omega),Nat.add_sub_cancel_left,show(kC z).length+i *4+2=(kC z).length+(i *4+2) by omega,List.set_append_right _ _ (by omega),Nat.add_sub_cancel_left]
theorem zip_set {ks:List Kd} {rs:List Value} {j:Nat} {y:Kd} {r:Value} (hr:rs[j]?=some r):(ks.set j y).zip rs=(ks.zip rs).set j (y,r):=by
 apply List.ext_getElem?;intro i;by_cases hij:i=j
 ·subst hij
  rcases Nat.lt_or_ge i ks.length with h|h
  ·have hr':=(List.getElem?_eq_some_iff.1 hr).1
   rw[(List.getElem?_zip_eq_some (z:=(y,r))).2 ⟨List.getElem?_set_self h,hr⟩,List.getElem?_set_self (by rw[List.length_zip];omega)]
  ·rw[List.getElem?_eq_none (by rw[List.length_zip,List.length_set];omega),List.getElem?_eq_none (by rw[List.length_set,List.length_zip];omega)]
 ·rw[List.getElem?_set_ne (fun e=>hij e.symm),List.zip_eq_zipWith,List.zip_eq_zipWith,List.getElem?_zipWith,List.getElem?_zipWith,List.getElem?_set_ne (fun e=>hij e.symm)]
set_option maxRecDepth 20000 in
set_option maxHeartbeats 4000000 in
theorem markKeptX (base g cap k:Nat) (rs:List Value) (ks:List Kd) (w:World) (h:KAns w base (.slice (some ⟨g,0,none⟩) ks.length cap) rs ks) (hk:1<=k) (hkn:k+ks.length *3+refsN ks<=100000000):
 Calls Tryz.prog 102 #[.slice (some ⟨g,0,none⟩) ks.length cap,.int .i64 k] w fun e w'=>e=.returned (.int .i64 (k+ks.length *3+refsN ks:Nat))/\KAns w' base (.slice (some ⟨g,0,none⟩) ks.length cap) rs (markK k ks)/\Tn (g::rs.filterMap Value.ownBlock) w w':=by
 have H0:Hid _:=h;clear h;go_enter Tryz.func102,Tryz.ntmps102;go_wp2
 go_loopw [1,5] (fun v i wr=>∃(j K:Nat),j<=ks.length/\i=.int .i64 j/\v=.int .i64 K/\Hid (K=k+j *3+refsN (ks.take j))/\Hid (KAns wr base (.slice (some ⟨g,0,none⟩) ks.length cap) rs (markK k (ks.take j)++ks.drop j)/\Tn (g::rs.filterMap Value.ownBlock) w wr)) (fun _ i _=>ks.length -(intOf i).toNat)
 case atStart=>exact⟨0,k,Nat.zero_le _,rfl,rfl,(show k=_ by simp[refsN]),⟨by simpa [markK] using H0.out,Tn.of (Below.refl _ _)⟩⟩
 case round=>
  clear H0;obtain⟨j,K,hj,rfl,rfl,HK,HM⟩:=hrel;have hrt:=refsN_take ks j;by_cases hlt:j<ks.length
  ·have hlt':(j:Int)<ks.length:=by omega
   have hg:ks[j]?=some ks[j]:=List.getElem?_eq_getElem hlt;have hrn:=refsN_snoc hg;have hrt2:=refsN_take ks (j+1);have HS:Hid _:=markK_step (k:=k) hg;have hLj:(markK k (ks.take j)++ks.drop j)[j]?=some ks[j]:=by
    rw[List.getElem?_append_right (by rw[markK_length,List.length_take];omega),markK_length,List.length_take,List.getElem?_drop];rw[show j+(j -min j ks.length)=j by omega];exact hg
   have hll:(markK k (ks.take j)++ks.drop j).length=ks.length:=by
    rw[List.length_append,markK_length,List.length_take,List.length_drop];omega
   generalize hLe:markK k (ks.take j)++ks.drop j=Lj at *
   have hKe:=HK.out;generalize ks[j]=x at *
   obtain⟨M1,M2⟩:=HM.out;have hrl:rs.length=ks.length:=M1.len.trans hll;obtain⟨r,hrj⟩:∃r,rs[j]?=some r:=⟨rs[j]'(by omega),List.getElem?_eq_getElem (by omega)⟩;have hor:=M1.refs j x r hLj hrj;obtain⟨ra,rc,rfl⟩:=own_val hor;have hth:=M1.things;rw[hll] at hth
   have hzj:(Lj.zip rs)[j]?=some (x,Value.slice ra x.refs.length rc):=(List.getElem?_zip_eq_some (z:=(x,Value.slice ra x.refs.length rc))).2 ⟨hLj,hrj⟩;have hxl:=hth.1;have hgr:∀b,(Value.slice ra x.refs.length rc).ownBlock=some b->b≠g:=fun b hb e=>by
    have:=M1.nd;simp only[Value.ownBlock,Option.toList_some,List.cons_append,List.nil_append,List.nodup_cons] at this;exact this.1 (e▸List.mem_filterMap.2 ⟨_,List.mem_of_getElem? hrj,hb⟩)
   have HTh:Hid _:=hth;have HOr:Hid _:=hor;have HM1:Hid _:=And.intro M1 M2;have HZ:Hid _:=hzj;have hK1:1<=K:=by omega
   have hK2:K+3+x.refs.length<=100000000:=by omega
   have HX:Hid (j *4+4<=(rowC kC (Lj.zip rs)).length):=by show _<=_;omega
   have HLe:Hid _:=hLe;have HKe:Hid _:=hKe;have HN:Hid _:=And.intro hrn (And.intro hrt2 hll);have HR:Hid _:=And.intro hrj hrl;clear M1 M2 hth hor hg HM hzj hLj hLe hKe hrn hrt2 hll hrj hrl hxl hrt;go_wp2_with fail;refine(markText_at K _ _ rfl (by omega) (by omega)).mono ?_;rintro e w2 ⟨rfl,hb2⟩;have h2:=own_below HTh.out hb2;have hxl:=HX.out
   have c2:∃v,w2.cell? ⟨g,j *4,none⟩=some v:=⟨_,(h2.cellAt (j *4) (by omega)).trans (List.getElem?_eq_getElem (by omega))⟩;obtain⟨v2,c2⟩:=c2;have c3:∃v,w2.cell? ⟨g,j *4+1,none⟩=some v:=⟨_,(h2.cellAt (j *4+1) (by omega)).trans (List.getElem?_eq_getElem (by omega))⟩;obtain⟨v3,c3⟩:=c3;have ff:=h2.frozenAt;have f2:=ff (j *4);have f3:=ff (j *4+1)
   have h3:=((h2.stored (j *4) (.string (mkT K))).1.stored (j *4+1) (.int .i64 ((K:Int)+1))).1;have HO3:Hid _:=own_set (own_set (own_below HOr.out hb2) hgr (j *4) (.string (mkT K))) hgr (j *4+1) (.int .i64 ((K:Int)+1))
   have T3:Hid (Tn [g] wr ((w2.setCell ⟨g,j *4,none⟩ (.string (mkT K))).setCell ⟨g,j *4+1,none⟩ (.int .i64 ((K:Int)+1)))):=((Tn.of hb2).trans (Tn.set w2 g _ _ (by simp))).trans (Tn.set _ g _ _ (by simp));have H3:Hid _:=h3;clear h2 h3 hb2 ff hxl;go_wp2_with fail;refine(markText_at (K+1+1) _ _ (by omega) (by omega) (by omega)).mono ?_;rintro e w4 ⟨rfl,hb4⟩;have h4:=own_below H3.out hb4
   have hxl:=HX.out;have hx4:j *4+4<=((((rowC kC (Lj.zip rs)).set (j *4) (.string (mkT K))).set (j *4+1) (.int .i64 ((K:Int)+1)))).length:=by simpa using hxl
   have c4:∃v,w4.cell? ⟨g,j *4+2,none⟩=some v:=⟨_,(h4.cellAt (j *4+2) (by omega)).trans (List.getElem?_eq_getElem (by omega))⟩;obtain⟨v4,c4⟩:=c4;have f4:=h4.frozenAt (j *4+2);have c5:w4.cell? ⟨g,j *4+3,none⟩=some (.slice ra x.refs.length rc):=by
    rw[h4.cellAt (j *4+3) (by omega),List.getElem?_set_ne (by omega),List.getElem?_set_ne (by omega)];exact row_get kC_len4 HZ.out (show 3<4 by decide)
   have h5:=(h4.stored (j *4+2) (.string (mkT (K+1+1)))).1;rw[row_set3 HZ.out ⟨mkT K,(K:Int)+1,mkT (K+1+1),marks (K+1+1+1) x.refs.length⟩] at h5;have HO5:Hid _:=own_set (own_below HO3.out hb4) hgr (j *4+2) (.string (mkT (K+1+1)));have T5:Hid (Tn [g] wr (w4.setCell ⟨g,j *4+2,none⟩ (.string (mkT (K+1+1))))):=(T3.out.trans (Tn.of hb4)).trans (Tn.set w4 g _ _ (by simp));have H5:Hid _:=h5
   clear h4 h5 hb4 c2 f2 c3 f3 HO3 T3 H3 hxl hx4;have hcall:=markS_any ra x.refs.length rc (K+1+1+1) base _ (w4.setCell ⟨g,j *4+2,none⟩ (.string (mkT (K+1+1)))) HO5.out (by omega) (by omega);rw[show((K+1+1+1:Nat):Int)=(K:Int)+1+1+1 from by omega] at hcall;have HC:Hid _:=hcall;clear hcall;go_wp2_with fail;refine Calls.mono HC.out ?_;rintro e w6 ⟨rfl,ho6,hg6⟩;have HF:Hid _:=And.intro ho6 hg6
   clear ho6 hg6 HC c4 f4 c5;go_wp2;obtain⟨hrn,hrt2,hll⟩:=HN.out;obtain⟨hrj,hrl⟩:=HR.out;have hKe:=HKe.out;obtain⟨M1,M2⟩:=HM1.out;obtain⟨ho6,hg6⟩:=HF.out;have hnd:=M1.nd;simp only[Value.ownBlock,Option.toList_some,List.cons_append,List.nil_append,List.nodup_cons] at hnd
   have hst:∀b,b<wr.heap.size->b≠g->(Value.slice ra x.refs.length rc).ownBlock≠some b->w6.heap[b]?=wr.heap[b]?:=fun b h1 h2 h3=>(hg6.block b (Nat.lt_of_lt_of_le h1 T5.out.size) (fun e=>h3 e.symm)).trans (T5.out.block b h1 (by simpa using h2));have hTg:Tn (g::rs.filterMap Value.ownBlock) wr w6:=by
    refine⟨hg6.os.trans T5.out.os,hg6.tape.trans T5.out.tape,hg6.output.trans T5.out.output,Nat.le_trans T5.out.size hg6.size,fun b h1 h2=> ?_⟩;refine hst b h1 (fun e=>h2 (by simp[e])) (fun e=>h2 (List.mem_cons_of_mem _ (List.mem_filterMap.2 ⟨_,List.mem_of_getElem? hrj,e⟩)))
   refine⟨⟨j+1,K+1+1+1+x.refs.length,by omega,by go_num,by go_num,?_,?_,M2.trans hTg⟩,by simp[intOf];omega⟩
   ·show _=_
    omega
   ·rw[HS.out,←hKe]
    refine⟨by rw[List.length_set];omega,?_,?_,M1.nd⟩
    ·rw[List.length_set,hll,zip_set hrj]
     exact World.ownsRow.kept H5.out hg6 (.inr (fun e=>hgr g e.symm rfl))
    ·intro i y r' hy hr'
     by_cases hij:i=j
     ·subst hij
      rw[hrj] at hr';cases hr';rw[List.getElem?_set_self (by omega)] at hy;cases hy;show w6.ownsRow base 9 1 _ (marks (K+1+1+1) x.refs.length).length _;rw[marks_length];exact ho6
     ·rw[List.getElem?_set_ne (fun e=>hij e.symm)] at hy
      refine own_same (M1.refs i y r' hy hr') (fun b hb=>hst b (own_lt (M1.refs i y r' hy hr') hb).2 (fun e=>hnd.1 (e▸List.mem_filterMap.2 ⟨_,List.mem_of_getElem? hr',hb⟩)) (fun e=>hij (nd_idx hnd.2 hr' hrj hb e)))
  ·obtain rfl:j=ks.length:=by omega
   have hKe:=HK.out;have hMe:=HM.out;rw[List.take_of_length_le (Nat.le_refl _)] at hKe hMe;rw[List.drop_of_length_le (Nat.le_refl _),List.append_nil] at hMe;have HM':Hid _:=hMe;clear hMe HM;subst hKe;go_wp2;go_ret;exact⟨rfl,HM'.out.1,HM'.out.2⟩
end Go.Proofs.YtpekbmegopfhfaaGreatDoor
namespace Go.Proofs.YtpekbmegopfhfaaGreatDoor
open Go.ChangeShapes Go.WideShapes Go.ChangeAt Go.RowKit
theorem markK_get {k j:Nat} {ks:List Kd} {x:Kd} (hx:ks[j]?=some x):(markK k ks)[j]?=some (markX (k+j *3+refsN (ks.take j)) x):=by
 obtain⟨hlt,rfl⟩:=List.getElem?_eq_some_iff.1 hx;have h1:ks=ks.take j++ks.drop j:=(List.take_append_drop j ks).symm;have hl:(markK k (ks.take j)).length=j:=by rw[markK_length,List.length_take];omega
 have hl2:(ks.take j).length=j:=by rw[List.length_take];omega
 conv=>lhs;rw[h1,markK_append,hl2,List.drop_eq_getElem_cons hlt]
 rw[List.getElem?_append_right (by omega),hl,Nat.sub_self];rfl
set_option maxRecDepth 20000 in
set_option maxHeartbeats 4000000 in
theorem heldKeptX (base g cap k:Nat) (rs:List Value) (ks:List Kd) (w:World) (h:KAns w base (.slice (some ⟨g,0,none⟩) ks.length cap) rs (markK k ks)) (hk:1<=k) (hkn:k+ks.length *3+refsN ks<=100000000):
 Calls Tryz.prog 105 #[.slice (some ⟨g,0,none⟩) ks.length cap,.int .i64 k] w fun e w'=>e=.returned (.int .i64 (k+ks.length *3+refsN ks:Nat))/\Below w.heap.size w w':=by
 have H0:Hid _:=h;have hgl:g<w.heap.size:=(own_lt h.things rfl).2;clear h;go_enter Tryz.func105,Tryz.ntmps105;go_wp2
 go_loopw [1,5] (fun v i wr=>∃(j K:Nat),j<=ks.length/\i=.int .i64 j/\v=.int .i64 K/\Hid (K=k+j *3+refsN (ks.take j))/\Below w.heap.size w wr) (fun _ i _=>ks.length -(intOf i).toNat)
 case atStart=>exact⟨0,k,Nat.zero_le _,rfl,rfl,(show k=_ by simp[refsN]),Below.refl _ _⟩
 case round=>
  obtain⟨j,K,hj,rfl,rfl,HK,hbel⟩:=hrel;have hrt:=refsN_take ks j;have hzr:=hbel.size;by_cases hlt:j<ks.length
  ·have hlt':(j:Int)<ks.length:=by omega
   have hg:ks[j]?=some ks[j]:=List.getElem?_eq_getElem hlt;have hrn:=refsN_snoc hg;have hrt2:=refsN_take ks (j+1);have hLj:=markK_get (k:=k) hg;have hKe:=HK.out;rw[←hKe] at hLj;generalize ks[j]=x at *
   have hrl:rs.length=ks.length:=H0.out.len.trans (markK_length k ks);obtain⟨r,hrj⟩:∃r,rs[j]?=some r:=⟨rs[j]'(by omega),List.getElem?_eq_getElem (by omega)⟩;have hor:=H0.out.refs j _ r hLj hrj;have hml:(markX K x).refs.length=x.refs.length:=marks_length _ _;rw[hml] at hor;obtain⟨ra,rc,rfl⟩:=own_val hor;have hth:=H0.out.things;rw[markK_length] at hth
   have hzj:((markK k ks).zip rs)[j]?=some (markX K x,Value.slice ra x.refs.length rc):=(List.getElem?_zip_eq_some (z:=(markX K x,Value.slice ra x.refs.length rc))).2 ⟨hLj,hrj⟩;have hxl:=hth.1;have c0:w.cell? ⟨g,j *4,none⟩=some (.string (mkT K)):=(hth.cellAt (j *4) (by omega)).trans (row_get kC_len4 hzj (show 0<4 by decide))
   have c1:w.cell? ⟨g,j *4+1,none⟩=some (.int .i64 ((K:Int)+1)):=(hth.cellAt (j *4+1) (by omega)).trans (row_get kC_len4 hzj (show 1<4 by decide));have c2:w.cell? ⟨g,j *4+2,none⟩=some (.string (mkT (K+1+1))):=(hth.cellAt (j *4+2) (by omega)).trans (row_get kC_len4 hzj (show 2<4 by decide))
   have c3:w.cell? ⟨g,j *4+3,none⟩=some (.slice ra x.refs.length rc):=(hth.cellAt (j *4+3) (by omega)).trans (row_get kC_len4 hzj (show 3<4 by decide));have HR:Hid (SRow w w.heap.size ra (marks (K+1+1+1) x.refs.length)):=by
    have h1:w.ownsRow base 9 1 (.slice ra (marks (K+1+1+1) x.refs.length).length rc) (marks (K+1+1+1) x.refs.length).length ((marks (K+1+1+1) x.refs.length).map Value.string):=by
     rw[marks_length];exact hor
    rcases h1.2 with⟨hv,h0⟩|⟨q,cap',cur,hv,_⟩
    ·exact .inl (List.eq_nil_of_length_eq_zero h0)
    ·cases hv
     exact SRow.own h1
   have hK1:1<=K:=by omega
   have hK2:K+3+x.refs.length<=100000000:=by omega
   have HN:Hid _:=And.intro hrn hKe;clear hth hor hg hzj hLj hKe hrn hrt2 hrj hrl hxl hrt hml;have y0:=(hbel.cell (p:=⟨g,j *4,none⟩) hgl).trans c0;have q0:=Cls.cell y0 (show g<wr.heap.size by omega);have hne:=Cls.ne wr
   have HC0:Hid (∀m:Cls wr,Calls Tryz.prog 49 #[.int .i64 K] m.w fun e w'=>e=.returned (.string (mkT K))/\Below m.w.heap.size m.w w'):=fun m=>markText_at K _ m.w rfl (by omega) (by omega);have HC:Hid _:=And.intro c1 (And.intro c2 c3);clear c0 c1 c2 c3 y0;go_wp2;refine region_cls_lit (by kernel_rfl) (by kernel_rfl) ?_
   repeat (go_big_quiet_step (exact Cls.calls (HC0.out _)))
   refine wpQuiet_nil ?_;intro m;have bm:Below w.heap.size w m.w:=hbel.trans (m.h.mono hzr);have y1:=(bm.cell (p:=⟨g,j *4+1,none⟩) hgl).trans HC.out.1;have y2:=(bm.cell (p:=⟨g,j *4+2,none⟩) hgl).trans HC.out.2.1;have y3:=(bm.cell (p:=⟨g,j *4+3,none⟩) hgl).trans HC.out.2.2;have hzm:=bm.size;generalize m.w=wm at *
   clear q0 hne HC0 m;have q2:=Cls.cell y2 (show g<wm.heap.size by omega);have hne:=Cls.ne wm;have HC2:Hid (∀m:Cls wm,Calls Tryz.prog 49 #[.int .i64 ((K:Int)+1+1)] m.w fun e w'=>e=.returned (.string (mkT (K+1+1)))/\Below m.w.heap.size m.w w'):=fun m=>markText_at (K+1+1) _ m.w (by omega) (by omega) (by omega);have HY3:Hid _:=y3;clear y2 y3;go_wp2
   refine region_cls_lit (by kernel_rfl) (by kernel_rfl) ?_
   repeat (go_big_quiet_step (exact Cls.calls (HC2.out _)))
   refine wpQuiet_nil ?_;intro m2;have bm2:Below w.heap.size w m2.w:=bm.trans (m2.h.mono hzm);have z3:=(m2.h.cell (p:=⟨g,j *4+3,none⟩) (show g<wm.heap.size by omega)).trans HY3.out;have hcall:=heldS_any ra x.refs.length rc (K+1+1+1) w.heap.size m2.w (SRow.below HR.out bm2) bm2.size (by omega) (by omega);rw[show((K+1+1+1:Nat):Int)=(K:Int)+1+1+1 from by omega] at hcall;have HL:Hid _:=hcall
   have hz2:=bm2.size;generalize m2.w=w2 at *
   clear q2 hne HC2 m2 hcall y1 HY3;go_wp2_with fail;refine Calls.mono HL.out ?_;rintro e w3 ⟨rfl,hb3⟩;clear z3 HL;go_wp2;exact⟨⟨j+1,K+1+1+1+x.refs.length,by omega,by go_num,by go_num,(by have:=HN.out;show _=_;omega),bm2.trans (hb3.mono hz2)⟩,by simp[intOf];omega⟩
  ·obtain rfl:j=ks.length:=by omega
   have hKe:=HK.out;rw[List.take_of_length_le (Nat.le_refl _)] at hKe;subst hKe;go_wp2;go_ret;exact⟨rfl,hbel⟩
end Go.Proofs.YtpekbmegopfhfaaGreatDoor
