import Derived.Test.YthkmpihfhkmaoaaGreatDoorV20
import Derived.Test.YthkmpihfhkmaoaaGreatDoorV22
import Derived.Test.YthkmpihfhkmaoaaGreatDoorV21
import Derived.Test.YthkmpihfhkmaoaaGreatDoorV13
import Derived.Test.YthkmpihfhkmaoaaGreatDoorV18
namespace Go.Proofs.YthkmpihfhkmaoaaGreatDoor
open Go.ChangeShapes Go.WideShapes Go.ChangeAt Go.RowKit
theorem SAns.lts {w:World} {base:Nat} {T P L:Value} {rs:List Value} {ks:List Kd} {ps:List Pd} {ls:List Ld} (h:SAns w base T P L rs ks ps ls):∀g∈blks T P L rs,g<w.heap.size:=by
 intro g hg;unfold blks at hg;simp only[List.mem_append,Option.mem_toList,List.mem_filterMap] at hg;rcases hg with hg|hg|hg|⟨r,hr,hg⟩
 ·exact(own_lt h.things hg).2
 ·exact(own_lt h.pins hg).2
 ·exact(own_lt h.leases hg).2
 ·obtain⟨i,hi⟩:=List.getElem?_of_mem hr
  have hl:=(List.getElem?_eq_some_iff.1 hi).1;rw[h.len] at hl;exact(own_lt (h.refs i _ r (List.getElem?_eq_getElem hl) hi) hg).2
theorem SAns.apart {w w':World} {base:Nat} {T P L:Value} {rs:List Value} {ks:List Kd} {ps:List Pd} {ls:List Ld} (h:SAns w base T P L rs ks ps ls) {V:List Nat} (ht:Tn V w w') (hV:∀b∈V,b∉blks T P L rs):SAns w' base T P L rs ks ps ls:=by
 have hmem:∀g,g∈blks T P L rs->g<w.heap.size->w'.heap[g]?=w.heap[g]?:=fun g hg hl=>ht.block g hl (fun e=>hV g e hg)
 refine⟨h.len,own_same h.things (fun g hg=>hmem g (by unfold blks;simp[hg]) (own_lt h.things hg).2),fun i k r hk hr=>own_same (h.refs i k r hk hr) (fun g hg=>hmem g (by unfold blks;simp only[List.mem_append,List.mem_filterMap];exact .inr (.inr (.inr ⟨r,List.mem_of_getElem? hr,hg⟩))) (own_lt (h.refs i k r hk hr) hg).2),own_same h.pins (fun g hg=>hmem g (by unfold blks;simp[hg]) (own_lt h.pins hg).2),own_same h.leases (fun g hg=>hmem g (by unfold blks;simp[hg]) (own_lt h.leases hg).2),h.nd⟩
theorem SAns.rows {w:World} {base:Nat} {T P L:Value} {rs:List Value} {ks:List Kd} {ps:List Pd} {ls:List Ld} (h:SAns w base T P L rs ks ps ls):∃ta tc pa pc la lc,T=.slice ta ks.length tc/\P=.slice pa ps.length pc/\L=.slice la ls.length lc/\SRows w w.heap.size ta pa la ks ps ls:=by
 obtain⟨ta,tc,rfl⟩:=own_val h.things;obtain⟨pa,pc,rfl⟩:=own_val h.pins;obtain⟨la,lc,rfl⟩:=own_val h.leases;refine⟨ta,tc,pa,pc,la,lc,rfl,rfl,rfl,⟨?_,PRow.own h.pins,LRow.own h.leases⟩⟩;rcases h.things.2 with⟨_,hn⟩|⟨g,cap,cur,e,hb,hg,_⟩
 ·exact .inl (List.length_eq_zero_iff.1 hn)
 ·cases e
  refine .inr ⟨g,0,rfl,(Array.getElem?_eq_some_iff.1 hg).1,fun i k hk=> ?_⟩;have hi:=(List.getElem?_eq_some_iff.1 hk).1;have hlen:=h.len;have hr:rs[i]?=some rs[i]:=List.getElem?_eq_getElem (by omega);have hz:(ks.zip rs)[i]?=some (k,rs[i]):=List.getElem?_zip_eq_some.2 ⟨hk,hr⟩;have hzl:(ks.zip rs).length=ks.length:=by rw[List.length_zip];omega
  have hc:∀j,j<4->w.cell? ⟨g,i *4+j,none⟩=(kC (k,rs[i]))[j]?:=fun j hj=>(h.things.cellAt (i *4+j) (by omega)).trans (row_get kC_len4 hz hj);have ho:=h.refs i k _ hk hr;obtain⟨ra,rc,hra⟩:=own_val ho;rw[Nat.zero_add];refine⟨by simpa [kC] using hc 0 (by decide),by simpa [kC] using hc 1 (by decide),by simpa [kC] using hc 2 (by decide),ra,rc,?_,?_⟩
  ·have:=hc 3 (by decide)
   rw[←hra];simpa [kC] using this
  ·rw[hra] at ho
   rcases ho.2 with⟨_,hn⟩|⟨g2,cap2,cur2,e2,_⟩
   ·exact .inl (List.eq_nil_of_length_eq_zero hn)
   ·cases e2
    exact SRow.own ho
theorem refsN_le {ks:List Kd} (h:∀k∈ks,k.refs.length<=30):refsN ks<=30 *ks.length:=by
 induction ks with
 |nil=>simp[refsN]
 |cons x xs ih=>
  rw[refsN_cons];have h1:=h x (by simp);have h2:=ih (fun k hk=>h k (by simp[hk]));simp only[List.length_cons];omega
theorem SOwn.ksome {w:World} {lo g p l:Nat} {ks:List Kd} {ps:List Pd} {ls:List Ld} (h:SOwn w lo g p l ks ps ls):KSome w ⟨g,0,none⟩ ks:=by
 obtain⟨xs,ho,hk⟩:=h.k;intro i x hx;have hi:=(List.getElem?_eq_some_iff.1 hx).1;obtain⟨_,_,_,q,h3,_⟩:=hk i x hx;refine⟨⟨q,0,none⟩,x.refs.length,?_⟩;rw[←h3,Nat.zero_add];exact ho.cellAt (i *4+3) (by omega)
theorem SAns.same {w w':World} {base:Nat} {T P L:Value} {rs:List Value} {ks:List Kd} {ps:List Pd} {ls:List Ld} (h:SAns w base T P L rs ks ps ls) (hs:∀b,base<=b->b<w.heap.size->w'.heap[b]?=w.heap[b]?):SAns w' base T P L rs ks ps ls:=by
 have ho:∀{e:TypeId} {size:Nat} {v:Value} {n:Nat} {xs:List Value},w.ownsRow base e size v n xs->w'.ownsRow base e size v n xs:=fun h=>own_same h (fun g hg=>hs g (own_lt h hg).1 (own_lt h hg).2);exact⟨h.len,ho h.things,fun i k r hk hr=>ho (h.refs i k r hk hr),ho h.pins,ho h.leases,h.nd⟩
theorem KSome.below {w w':World} {g:Nat} {ks:List Kd} (h:KSome w ⟨g,0,none⟩ ks) (hb:Below w.heap.size w w'):KSome w' ⟨g,0,none⟩ ks:=by
 intro i k hk;obtain⟨ad,rc,h1⟩:=h i k hk;exact⟨ad,rc,(hb.cell (p:=⟨g,0+i *4+3,none⟩) (World.block_lt_of_cell? w _ h1)).trans h1⟩
end Go.Proofs.YthkmpihfhkmaoaaGreatDoor
namespace Go.Proofs.YthkmpihfhkmaoaaGreatDoor
open Go.ChangeShapes Go.WideShapes Go.ChangeAt Go.RowKit
theorem c12 {w:World} {b:Nat} {a0 a1 a2 a3 a4 a5 a6 a7 a8 a9 a10 a11:Value} (h:CellsAt w b [a0,a1,a2,a3,a4,a5,a6,a7,a8,a9,a10,a11]):(w.cell? ⟨b,0,none⟩=some a0/\w.frozen? ⟨b,0,none⟩=false)/\(w.cell? ⟨b,1,none⟩=some a1/\w.frozen? ⟨b,1,none⟩=false)/\(w.cell? ⟨b,2,none⟩=some a2/\w.frozen? ⟨b,2,none⟩=false)/\(w.cell? ⟨b,3,none⟩=some a3/\w.frozen? ⟨b,3,none⟩=false)/\(w.cell? ⟨b,4,none⟩=some a4/\w.frozen? ⟨b,4,none⟩=false)/\(w.cell? ⟨b,5,none⟩=some a5/\w.frozen? ⟨b,5,none⟩=false)/\(w.cell? ⟨b,6,none⟩=some a6/\w.frozen? ⟨b,6,none⟩=false)/\(w.cell? ⟨b,7,none⟩=some a7/\w.frozen? ⟨b,7,none⟩=false)/\(w.cell? ⟨b,8,none⟩=some a8/\w.frozen? ⟨b,8,none⟩=false)/\(w.cell? ⟨b,9,none⟩=some a9/\w.frozen? ⟨b,9,none⟩=false)/\(w.cell? ⟨b,10,none⟩=some a10/\w.frozen? ⟨b,10,none⟩=false)/\w.cell? ⟨b,11,none⟩=some a11/\w.frozen? ⟨b,11,none⟩=false:=
 ⟨h 0 _ rfl,h 1 _ rfl,h 2 _ rfl,h 3 _ rfl,h 4 _ rfl,h 5 _ rfl,h 6 _ rfl,h 7 _ rfl,h 8 _ rfl,h 9 _ rfl,h 10 _ rfl,h 11 _ rfl⟩
theorem c6 {w:World} {b:Nat} {a0 a1 a2 a3 a4 a5:Value} (h:CellsAt w b [a0,a1,a2,a3,a4,a5]):(w.cell? ⟨b,0,none⟩=some a0/\w.frozen? ⟨b,0,none⟩=false)/\(w.cell? ⟨b,1,none⟩=some a1/\w.frozen? ⟨b,1,none⟩=false)/\(w.cell? ⟨b,2,none⟩=some a2/\w.frozen? ⟨b,2,none⟩=false)/\(w.cell? ⟨b,3,none⟩=some a3/\w.frozen? ⟨b,3,none⟩=false)/\(w.cell? ⟨b,4,none⟩=some a4/\w.frozen? ⟨b,4,none⟩=false)/\w.cell? ⟨b,5,none⟩=some a5/\w.frozen? ⟨b,5,none⟩=false:=
 ⟨h 0 _ rfl,h 1 _ rfl,h 2 _ rfl,h 3 _ rfl,h 4 _ rfl,h 5 _ rfl⟩
def RdS (n:Nat) (w:World) (ta pa la:Option Addr) (ks:List Kd) (ps:List Pd) (ls:List Ld):Prop:=∀V w',(∀b∈V,b<n)->Tn V w w'->SRows w' w'.heap.size ta pa la ks ps ls
theorem SAns.rdS {w:World} {base:Nat} {ta pa la:Option Addr} {tc pc lc:Nat} {rs:List Value} {ks:List Kd} {ps:List Pd} {ls:List Ld} (h:SAns w base (.slice ta ks.length tc) (.slice pa ps.length pc) (.slice la ls.length lc) rs ks ps ls):RdS base w ta pa la ks ps ls:=fun V w' hV ht=>by
 obtain⟨_,_,_,_,_,_,e1,e2,e3,hr⟩:=(h.turn ht hV).rows;cases e1;cases e2;cases e3;exact hr
theorem SAns.get {w:World} {base:Nat} {ta pa la:Option Addr} {tc pc lc:Nat} {rs:List Value} {ks:List Kd} {ps:List Pd} {ls:List Ld} (h:SAns w base (.slice ta ks.length tc) (.slice pa ps.length pc) (.slice la ls.length lc) rs ks ps ls):SRows w w.heap.size ta pa la ks ps ls:=
 h.rdS [] w (by simp) (Tn.of (Below.refl _ _))
structure AnSmall (x:An):Prop where
 ks:x.ks.length<=600
 refs:∀k∈x.ks,k.refs.length<=30
 ps:x.ps.length<=100
 ls:x.ls.length<=200
theorem AnTo.small {wd now given births:Int} {ks:List Kd} {ps:List Pd} {ls:List Ld} {kd:Int} {s nm:ByteArray} {num:Int} {text:ByteArray} {refs:List ByteArray} {x:An} (h:AnTo wd now given births ks ps ls kd s nm num text refs x):AnSmall x:=by
 rcases h with⟨_,rfl⟩|⟨g,⟨c,a,b,_,rfl⟩|⟨r,h,rfl⟩⟩
 ·exact⟨by simp,by simp,by simp,by simp⟩
 ·exact⟨by simp,by simp,by simp,by simp⟩
 ·have hf:=h.fits g.1 g.2
  exact⟨hf.nk,hf.refs,hf.np,hf.nl⟩
theorem AnSmall.fit {x:An} (h:AnSmall x):SFit x.ks x.ps x.ls:=
 ⟨by have:=h.ks;omega,fun k hk=>by have:=h.refs k hk;omega,by have:=h.ps;omega,by have:=h.ls;omega⟩
theorem AnSmall.count {x:An} (h:AnSmall x):1+cntS x.ks x.ps x.ls<=100000000:=by
 have h0:=h.ks;have h1:=refsN_le h.refs;have h2:=h.ps;have h3:=h.ls;unfold cntS;omega
set_option maxHeartbeats 400000 in
theorem szEntry_t (k:Int) (sum name:ByteArray) (n:Int) (t:ByteArray) (ad:Option Addr) (cap:Nat) (ss:List ByteArray) (left:Int) (w:World) (hrow:SRow w w.heap.size ad ss)
 (hs:sum.size<=maxLen) (hn:name.size<=maxLen) (ht:t.size<=maxLen) (hl:ss.length<=maxLen) (hss:∀s∈ss,s.size<=maxLen) (h1:0<=left) (h2:left<=1048576):
 Calls Tryz.prog 7 #[.agg (entV k sum name n t ad ss.length cap),.int .i64 left] w fun e w'=>∃r:Int,e=.returned (.int .i64 r)/\Below w.heap.size w w'/\(0<=r->ss.length<=1048576):=by
 have hb:Below w.heap.size w (w.alloc (.cells (entV k sum name n t ad ss.length cap) 31)):=(Below.refl _ _).alloc (Nat.le_refl _) _;have hs':=hs;have hn':=hn;unfold maxLen at hs' hn';by_cases hfit:(sum.size:Int)+name.size+t.size+ss.length+bulk ss<=left
 ·go_enter Tryz.func7,Tryz.ntmps7
  go_wp2_with fail;refine(szThing_yes t ad cap ss _ _ (hrow.below' hb) (by omega) (by omega)).mono ?_;rintro e w1 ⟨rfl,hb1⟩;go_wp2;go_ret;exact⟨_,rfl,hb.trans (hb1.mono (by simp)),fun _=>by omega⟩
 by_cases h3:left<sum.size
 ·go_enter Tryz.func7,Tryz.ntmps7
  go_wp2;go_ret;exact⟨_,rfl,hb,fun h=>by omega⟩
 ·by_cases h4:left -sum.size<name.size
  ·go_enter Tryz.func7,Tryz.ntmps7
   go_wp2;go_ret;exact⟨_,rfl,hb,fun h=>by omega⟩
  ·go_enter Tryz.func7,Tryz.ntmps7
   go_wp2_with fail;refine(szThing_no t ad cap ss _ _ (hrow.below' hb) ht hl hss (by omega) (by omega) (by omega)).mono ?_;rintro e w1 ⟨rfl,hb1⟩;go_wp2;go_ret;exact⟨_,rfl,hb.trans (hb1.mono (by simp)),fun h=>by omega⟩
end Go.Proofs.YthkmpihfhkmaoaaGreatDoor
namespace Go.Proofs.YthkmpihfhkmaoaaGreatDoor
open Go.ChangeShapes Go.WideShapes Go.ChangeAt Go.RowKit
theorem giveL_snoc {ls:List Ld} {k:Nat} {x:Ld} (n:Int) (hx:ls[k]?=some x):giveL (ls.take (k+1)) n=giveL (ls.take k) n++(if x.num=n then [] else [x]):=by
 obtain⟨hlt,rfl⟩:=List.getElem?_eq_some_iff.1 hx;unfold giveL;rw[List.take_succ_eq_append_getElem hlt,List.filter_append];by_cases h:ls[k].num=n<;>simp[h]
theorem giveL_len (ls:List Ld) (n:Int):(giveL ls n).length=ls.length↔¬∃x∈ls,x.num=n:=by
 unfold giveL;rw[List.length_filter_eq_length_iff];simp
def GiveTo (w w':World) (e:Ending) (wd now given births:Int) (T P:Value) (ls:List Ld) (n:Int):Prop:=
 Below w.heap.size w w'/\(((¬∃x∈ls,x.num=n)/\e=.returned (.agg #[.int .i64 5,.int .i64 0,.int .i64 0,.int .i64 0,.int .i64 0,.slice none 0 0,.slice none 0 0,.slice none 0 0,.string ⟨#[]⟩,.int .i64 0,.string ⟨#[]⟩,.string ⟨#[]⟩]))∨
  ((∃x∈ls,x.num=n)/\∃g c,e=.returned (.agg #[.int .i64 0,.int .i64 wd,.int .i64 now,.int .i64 given,.int .i64 births,T,P,.slice (some ⟨g,0,none⟩) (giveL ls n).length c,.string ⟨#[]⟩,.int .i64 0,.string ⟨#[]⟩,.string ⟨#[]⟩])/\w'.ownsRow w.heap.size 131 3 (.slice (some ⟨g,0,none⟩) (giveL ls n).length c) (giveL ls n).length (rowC lC (giveL ls n))))
set_option maxRecDepth 20000 in
set_option maxHeartbeats 4000000 in
theorem l4Give_any (wd now given births:Int) (ta pa la:Option Addr) (tn tc pn pc lc:Nat) (ls:List Ld) (n:Int) (w:World) (hrow:LRow w w.heap.size la ls) (hl:ls.length<=1000):
 Calls Tryz.prog 89 #[.agg #[.int .i64 wd,.int .i64 now,.int .i64 given,.int .i64 births,.slice ta tn tc,.slice pa pn pc,.slice la ls.length lc],.int .i64 n] w fun e w'=>GiveTo w w' e wd now given births (.slice ta tn tc) (.slice pa pn pc) ls n:=by
 obtain⟨W,hW⟩:∃W,W=(w.alloc (.cells #[.int .i64 wd,.int .i64 now,.int .i64 given,.int .i64 births,.slice ta tn tc,.slice pa pn pc,.slice la ls.length lc] 38)).alloc (.cells #[.int .i64 0,.int .i64 0,.int .i64 0,.int .i64 0,.int .i64 0,.slice none 0 0,.slice none 0 0,.slice none 0 0,.string ⟨#[]⟩,.int .i64 0,.string ⟨#[]⟩,.string ⟨#[]⟩] 40):=⟨_,rfl⟩
 have bW:Below w.heap.size w W:=by rw[hW];exact((Below.refl _ _).alloc (Nat.le_refl _) _).alloc (by simp) _
 have hzW:W.heap.size=w.heap.size+2:=by rw[hW];simp
 have x0:CellsAt W w.heap.size [.int .i64 wd,.int .i64 now,.int .i64 given,.int .i64 births,.slice ta tn tc,.slice pa pn pc,.slice la ls.length lc]:=by
  have h1:=CellsAt.new w [.int .i64 wd,.int .i64 now,.int .i64 given,.int .i64 births,.slice ta tn tc,.slice pa pn pc,.slice la ls.length lc] 38;rw[hW];exact CellsAt.below h1 ((Below.refl _ _).alloc (Nat.le_refl _) _)
 have x1:CellsAt W (w.heap.size+1) z12:=by
  have h1:=CellsAt.new (w.alloc (.cells #[.int .i64 wd,.int .i64 now,.int .i64 given,.int .i64 births,.slice ta tn tc,.slice pa pn pc,.slice la ls.length lc] 38)) z12 40;rw[World.size_alloc] at h1;rw[hW];exact h1
 have HX:Hid (∀X,Below (w.heap.size+2) W X->CellsAt X w.heap.size [.int .i64 wd,.int .i64 now,.int .i64 given,.int .i64 births,.slice ta tn tc,.slice pa pn pc,.slice la ls.length lc]/\CellsAt X (w.heap.size+1) z12):=fun X hX=>⟨CellsAt.same x0 (hX.block _ (by omega)),CellsAt.same x1 (hX.block _ (by omega))⟩;have HW:Hid _:=hW;have HzW:Hid (W.heap.size=w.heap.size+2):=hzW
 have hzW2:w.heap.size+2<=W.heap.size:=by omega
 have HR:Hid (LRow w w.heap.size la ls):=hrow;have HBW:Hid (Below w.heap.size w W):=bW;have bA:Below W.heap.size W (W.alloc (.cells #[] 131)):=(Below.refl _ _).alloc (Nat.le_refl _) _
 have HOA:Hid ((W.alloc (.cells #[] 131)).ownsRow (w.heap.size+2) 131 3 (.slice (some ⟨W.heap.size,0,none⟩) 0 0) 0 []):=World.ownsRow_lit (base:=w.heap.size+2) (e:=131) (size:=3) W #[] 0 (by omega) (by unfold maxLen;omega) rfl;have HBA:Hid (Below (w.heap.size+2) W (W.alloc (.cells #[] 131))):=bA.mono hzW2;clear hW hzW x0 x1 hrow bW bA;go_enter Tryz.func89,Tryz.ntmps89;go_upto_region 1 with fail
 rw[←HW.out];clear HW;go_wp2
 go_loopw [5,6] (fun v i wr=>∃(k g c:Nat),k<=ls.length/\i=.int .i64 k/\v=.slice (some ⟨g,0,none⟩) (giveL (ls.take k) n).length c/\Hid (wr.ownsRow (w.heap.size+2) 131 3 (.slice (some ⟨g,0,none⟩) (giveL (ls.take k) n).length c) (giveL (ls.take k) n).length (rowC lC (giveL (ls.take k) n))/\Below (w.heap.size+2) W wr)) (fun _ i _=>ls.length -(intOf i).toNat)
 case atStart=>exact⟨0,W.heap.size,0,Nat.zero_le _,rfl,by simp[giveL],⟨by simpa [giveL,rowC] using HOA.out,HBA.out⟩⟩
 case round=>
  clear HOA HBA;obtain⟨k,g,c,hk,rfl,rfl,HI⟩:=hrel;have hbr:Below w.heap.size w wr:=HBW.out.trans (HI.out.2.mono (by omega));have hzr:w.heap.size+2<=wr.heap.size:=Nat.le_trans hzW2 HI.out.2.size;obtain⟨v0,v1,v2,v3,v4,v5,v6,v7⟩:=sbox_of (HX.out _ HI.out.2).1;by_cases hlt:k<ls.length
  ·obtain⟨b',off,ha,hb,hc'⟩:=(LRow.below HR.out hbr).at hlt
   subst ha;have HG:Hid (ls[k]?=some ls[k]):=List.getElem?_eq_getElem hlt;obtain⟨c0,c1,c2⟩:=hc' k _ HG.out;have HSn:Hid _:=giveL_snoc n HG.out;have hgl:(giveL (ls.take k) n).length<=1000:=by
    have:=List.length_filter_le (fun x:Ld=> !decide (x.num=n)) (ls.take k);unfold giveL;rw[List.length_take] at this;omega
   clear hc';generalize ls[k]=x at *
   generalize hGk:giveL (ls.take k) n=gk at *
   have HGk:Hid _:=hGk;clear hGk;by_cases hxn:x.num=n
   ·have hq:(x.num !=n)=false:=by simp[hxn]
    have HE:Hid (giveL (ls.take (k+1)) n=gk):=by show _=_;rw[HSn.out,if_pos hxn,List.append_nil]
    clear hxn;go_wp2;exact⟨⟨k+1,g,c,by omega,by go_num,by rw[HE.out],⟨by rw[HE.out];exact HI.out.1,HI.out.2⟩⟩,by simp[intOf];omega⟩
   ·have hq:(x.num !=n)=true:=by simp[hxn]
    have HE:Hid (giveL (ls.take (k+1)) n=gk++[x]):=by show _=_;rw[HSn.out,if_neg hxn]
    clear hxn;obtain⟨g8,cap8,w8,hr8,ho8,hg8,hk8⟩:=lpush wr (w.heap.size+2) _ gk HI.out.1 x (by omega) hzr 36;have b8:Below (w.heap.size+2) wr w8:=(Below.refl _ _).grown hg8 hzr (fun q e=>(own_lt HI.out.1 e).1);have H8:Hid (w8.ownsRow (w.heap.size+2) 131 3 (.slice (some ⟨g8,0,none⟩) (gk.length+1) cap8) (gk++[x]).length (rowC lC (gk++[x]))/\Below (w.heap.size+2) W w8):=⟨ho8,HI.out.2.trans b8⟩
    have hbl':b'<wr.heap.size:=by have:=hbr.size;omega
    clear ho8 hg8 hk8 b8;go_wp2_with (at_builtin;refine wpList_append_run rfl _ _ 36 36 rfl rfl rfl hr8 ?_);clear hr8 c0 c1 c2 v0 v1 v2 v3 v4 v5 v6;go_wp2;exact⟨⟨k+1,g8,cap8,by omega,by go_num,by rw[HE.out,List.length_append];rfl,⟨by rw[HE.out,List.length_append];exact List.length_append▸H8.out.1,H8.out.2⟩⟩,by simp[intOf];omega⟩
  ·obtain rfl:k=ls.length:=by omega
   have hO:=HI.out.1;rw[List.take_of_length_le (Nat.le_refl _)] at hO ⊢;have HO:Hid (wr.ownsRow (w.heap.size+2) 131 3 (.slice (some ⟨g,0,none⟩) (giveL ls n).length c) (giveL ls n).length (rowC lC (giveL ls n))):=hO;have HBr:Hid (Below w.heap.size w wr):=hbr;obtain⟨⟨y0,q0⟩,⟨y1,q1⟩,⟨y2,q2⟩,⟨y3,q3⟩,⟨y4,q4⟩,⟨y5,q5⟩,⟨y6,q6⟩,⟨y7,q7⟩,⟨y8,q8⟩,⟨y9,q9⟩,⟨y10,q10⟩,y11,q11⟩:=z12at (HX.out _ HI.out.2).2
   have f6:=((HX.out _ HI.out.2).1 6 _ rfl).2;by_cases hex:∃x∈ls,x.num=n
   ·have hne:¬(giveL ls n).length=ls.length:=fun e=>(giveL_len ls n).1 e hex
    have hq:(((giveL ls n).length:Int)==(ls.length:Int))=false:=by simp;omega
    have HEx:Hid (∃x∈ls,x.num=n):=hex;clear hne hex hO hbr HI;go_wp2;refine bodyPost_ret (v:=.agg #[.int .i64 0,.int .i64 wd,.int .i64 now,.int .i64 given,.int .i64 births,.slice ta tn tc,.slice pa pn pc,.slice (some ⟨g,0,none⟩) (giveL ls n).length c,.string ⟨#[]⟩,.int .i64 0,.string ⟨#[]⟩,.string ⟨#[]⟩]) (by simp[results,Tryz.results89,go_sem,y0,y1,y2,y3,y4,y5,y6,y7,y8,y9,y10,y11]) rfl ?_
    have T':=(Tn.set (V:=[w.heap.size,w.heap.size+1]) wr w.heap.size 6 (.slice (some ⟨g,0,none⟩) (giveL ls n).length c) (by simp)).trans (Tn.mono (tn12 (wr.setCell ⟨w.heap.size,6,none⟩ (.slice (some ⟨g,0,none⟩) (giveL ls n).length c)) (w.heap.size+1) (.int .i64 0) (.int .i64 wd) (.int .i64 now) (.int .i64 given) (.int .i64 births) (.slice ta tn tc) (.slice pa pn pc) (.slice (some ⟨g,0,none⟩) (giveL ls n).length c) (.string ⟨#[]⟩) (.int .i64 0) (.string ⟨#[]⟩) (.string ⟨#[]⟩)) (by simp))
    exact⟨HBr.out.trans (T'.below HBr.out.size (by intro v hv;simp at hv;omega)),.inr ⟨HEx.out,g,c,rfl,(own_same HO.out (fun q hq=>T'.block q (own_lt HO.out hq).2 (by have:=(own_lt HO.out hq).1;simp;omega))).mono (by omega)⟩⟩
   ·have heq:(giveL ls n).length=ls.length:=(giveL_len ls n).2 hex
    have hq:(((giveL ls n).length:Int)==(ls.length:Int))=true:=by simp;omega
    have HEx:Hid (¬∃x∈ls,x.num=n):=hex;clear heq hex hO hbr HI;go_wp2;refine bodyPost_ret (v:=.agg #[.int .i64 5,.int .i64 0,.int .i64 0,.int .i64 0,.int .i64 0,.slice none 0 0,.slice none 0 0,.slice none 0 0,.string ⟨#[]⟩,.int .i64 0,.string ⟨#[]⟩,.string ⟨#[]⟩]) (by simp[results,Tryz.results89,go_sem,y0,y1,y2,y3,y4,y5,y6,y7,y8,y9,y10,y11]) rfl ?_
    exact⟨HBr.out.trans (Tn.below (tn12 wr (w.heap.size+1) _ _ _ _ _ _ _ _ _ _ _ _) HBr.out.size (by intro v hv;simp at hv;omega)),.inl ⟨HEx.out,rfl⟩⟩
end Go.Proofs.YthkmpihfhkmaoaaGreatDoor
namespace Go.Proofs.YthkmpihfhkmaoaaGreatDoor
open Go.ChangeShapes Go.WideShapes Go.ChangeAt Go.RowKit
theorem ppush (w:World) (base:Nat) (v:Value) (ls:List Pd) (ho:w.ownsRow base 130 2 v ls.length (rowC pC ls)) (x:Pd) (hn:ls.length<=1000000) (hbase:base<=w.heap.size) (ty:TypeId):
 ∃g cap w',(Builtin.append_ #[35,35] ty #[v,.slice (some ⟨w.heap.size,0,none⟩) 1 1]).run Tryz.prog (w.alloc (.cells #[.string x.name,.string x.sum] 130))=.ok (.slice (some ⟨g,0,none⟩) (ls.length+1) cap) w'/\w'.ownsRow base 130 2 (.slice (some ⟨g,0,none⟩) (ls.length+1) cap) (ls++[x]).length (rowC pC (ls++[x]))/\w.grownBy w' v.ownBlock/\(v.ownBlock=some g∨g=w.heap.size+1):=by
 obtain⟨i0,hi,hz0,hz1,hz2⟩:=info_parts Tryz.infoPin;have ho':=own_below ho ((Below.refl _ _).alloc (Nat.le_refl _) (.cells #[.string x.name,.string x.sum] 130));have hc:∀j u,(rowC pC [x])[j]?=some u->(w.alloc (.cells #[.string x.name,.string x.sum] 130)).cell? ((⟨w.heap.size,0,none⟩:Addr).add j)=some u:=by
  intro j u hu;rw[Go.WideShapes.add_plain,Nat.zero_add];exact(CellsAt.new w [.string x.name,.string x.sum] 130 j u (by simpa [rowC,pC] using hu)).1
 obtain⟨v',w',hr,h2,h3,_,h5⟩:=run_append_own_at (P:=Tryz.prog) (w.alloc (.cells #[.string x.name,.string x.sum] 130)) base 35 ty 130 i0 _ 2 32 Tryz.underlying35 hi hz0 hz1 hz2 rfl (by decide) v ls.length (rowC pC ls) ho' ⟨w.heap.size,0,none⟩ 1 1 (rowC pC [x]) (by simp[rowC,pC]) hc (by intro u hu;simp[rowC,pC] at hu;rcases hu with rfl|rfl<;>rfl) (by unfold maxLen;omega) (by omega) (by simp;omega)
 obtain⟨g,cap,rfl,_,_⟩:=own_form h2 (fun e=>by subst e;rcases h2.2 with⟨_,hn⟩|⟨_,_,_,e,_⟩<;>first|omega|cases e);refine⟨g,cap,w',hr,?_,(World.grownBy_alloc w _ _).trans h3,?_⟩
 ·rw[rowC_append,List.length_append]
  exact h2
 ·rcases h5 with h5|h5
  ·exact .inl h5.symm
  ·right
   simpa [Value.ownBlock] using h5
theorem unpinP_snoc {ls:List Pd} {k:Nat} {x:Pd} (n:ByteArray) (hx:ls[k]?=some x):unpinP (ls.take (k+1)) n=unpinP (ls.take k) n++(if x.name=n then [] else [x]):=by
 obtain⟨hlt,rfl⟩:=List.getElem?_eq_some_iff.1 hx;unfold unpinP;rw[List.take_succ_eq_append_getElem hlt,List.filter_append];by_cases h:ls[k].name=n<;>simp[h]
theorem unpinP_len (ls:List Pd) (n:ByteArray):(unpinP ls n).length=ls.length↔¬∃x∈ls,x.name=n:=by
 unfold unpinP;rw[List.length_filter_eq_length_iff];simp
def UnpinTo (w w':World) (e:Ending) (wd now given births:Int) (T P:Value) (ls:List Pd) (n:ByteArray):Prop:=
 Below w.heap.size w w'/\(((¬∃x∈ls,x.name=n)/\e=.returned (.agg #[.int .i64 5,.int .i64 0,.int .i64 0,.int .i64 0,.int .i64 0,.slice none 0 0,.slice none 0 0,.slice none 0 0,.string ⟨#[]⟩,.int .i64 0,.string ⟨#[]⟩,.string ⟨#[]⟩]))∨
  ((∃x∈ls,x.name=n)/\∃g c,e=.returned (.agg #[.int .i64 0,.int .i64 wd,.int .i64 now,.int .i64 given,.int .i64 births,T,.slice (some ⟨g,0,none⟩) (unpinP ls n).length c,P,.string ⟨#[]⟩,.int .i64 0,.string ⟨#[]⟩,.string ⟨#[]⟩])/\w'.ownsRow w.heap.size 130 2 (.slice (some ⟨g,0,none⟩) (unpinP ls n).length c) (unpinP ls n).length (rowC pC (unpinP ls n))))
set_option maxRecDepth 20000 in
set_option maxHeartbeats 4000000 in
theorem l4Unpin_any (wd now given births:Int) (ta pa la:Option Addr) (tn tc pn pc lc:Nat) (ls:List Pd) (n:ByteArray) (w:World) (hrow:PRow w w.heap.size la ls) (hl:ls.length<=1000):
 Calls Tryz.prog 87 #[.agg #[.int .i64 wd,.int .i64 now,.int .i64 given,.int .i64 births,.slice ta tn tc,.slice la ls.length lc,.slice pa pn pc],.string n] w fun e w'=>UnpinTo w w' e wd now given births (.slice ta tn tc) (.slice pa pn pc) ls n:=by
 obtain⟨W,hW⟩:∃W,W=(w.alloc (.cells #[.int .i64 wd,.int .i64 now,.int .i64 given,.int .i64 births,.slice ta tn tc,.slice la ls.length lc,.slice pa pn pc] 38)).alloc (.cells #[.int .i64 0,.int .i64 0,.int .i64 0,.int .i64 0,.int .i64 0,.slice none 0 0,.slice none 0 0,.slice none 0 0,.string ⟨#[]⟩,.int .i64 0,.string ⟨#[]⟩,.string ⟨#[]⟩] 40):=⟨_,rfl⟩
 have bW:Below w.heap.size w W:=by rw[hW];exact((Below.refl _ _).alloc (Nat.le_refl _) _).alloc (by simp) _
 have hzW:W.heap.size=w.heap.size+2:=by rw[hW];simp
 have x0:CellsAt W w.heap.size [.int .i64 wd,.int .i64 now,.int .i64 given,.int .i64 births,.slice ta tn tc,.slice la ls.length lc,.slice pa pn pc]:=by
  have h1:=CellsAt.new w [.int .i64 wd,.int .i64 now,.int .i64 given,.int .i64 births,.slice ta tn tc,.slice la ls.length lc,.slice pa pn pc] 38;rw[hW];exact CellsAt.below h1 ((Below.refl _ _).alloc (Nat.le_refl _) _)
 have x1:CellsAt W (w.heap.size+1) z12:=by
  have h1:=CellsAt.new (w.alloc (.cells #[.int .i64 wd,.int .i64 now,.int .i64 given,.int .i64 births,.slice ta tn tc,.slice la ls.length lc,.slice pa pn pc] 38)) z12 40;rw[World.size_alloc] at h1;rw[hW];exact h1
 have HX:Hid (∀X,Below (w.heap.size+2) W X->CellsAt X w.heap.size [.int .i64 wd,.int .i64 now,.int .i64 given,.int .i64 births,.slice ta tn tc,.slice la ls.length lc,.slice pa pn pc]/\CellsAt X (w.heap.size+1) z12):=fun X hX=>⟨CellsAt.same x0 (hX.block _ (by omega)),CellsAt.same x1 (hX.block _ (by omega))⟩;have HW:Hid _:=hW;have HzW:Hid (W.heap.size=w.heap.size+2):=hzW
 have hzW2:w.heap.size+2<=W.heap.size:=by omega
 have HR:Hid (PRow w w.heap.size la ls):=hrow;have HBW:Hid (Below w.heap.size w W):=bW;have bA:Below W.heap.size W (W.alloc (.cells #[] 130)):=(Below.refl _ _).alloc (Nat.le_refl _) _
 have HOA:Hid ((W.alloc (.cells #[] 130)).ownsRow (w.heap.size+2) 130 2 (.slice (some ⟨W.heap.size,0,none⟩) 0 0) 0 []):=World.ownsRow_lit (base:=w.heap.size+2) (e:=130) (size:=2) W #[] 0 (by omega) (by unfold maxLen;omega) rfl;have HBA:Hid (Below (w.heap.size+2) W (W.alloc (.cells #[] 130))):=bA.mono hzW2;clear hW hzW x0 x1 hrow bW bA;go_enter Tryz.func87,Tryz.ntmps87;go_upto_region 1 with fail
 rw[←HW.out];clear HW;go_wp2
 go_loopw [5,6] (fun v i wr=>∃(k g c:Nat),k<=ls.length/\i=.int .i64 k/\v=.slice (some ⟨g,0,none⟩) (unpinP (ls.take k) n).length c/\Hid (wr.ownsRow (w.heap.size+2) 130 2 (.slice (some ⟨g,0,none⟩) (unpinP (ls.take k) n).length c) (unpinP (ls.take k) n).length (rowC pC (unpinP (ls.take k) n))/\Below (w.heap.size+2) W wr)) (fun _ i _=>ls.length -(intOf i).toNat)
 case atStart=>exact⟨0,W.heap.size,0,Nat.zero_le _,rfl,by simp[unpinP],⟨by simpa [unpinP,rowC] using HOA.out,HBA.out⟩⟩
 case round=>
  clear HOA HBA;obtain⟨k,g,c,hk,rfl,rfl,HI⟩:=hrel;have hbr:Below w.heap.size w wr:=HBW.out.trans (HI.out.2.mono (by omega));have hzr:w.heap.size+2<=wr.heap.size:=Nat.le_trans hzW2 HI.out.2.size;obtain⟨v0,v1,v2,v3,v4,v5,v6,v7⟩:=sbox_of (HX.out _ HI.out.2).1;by_cases hlt:k<ls.length
  ·obtain⟨b',off,ha,hb,hc'⟩:=(PRow.below HR.out hbr).at hlt
   subst ha;have HG:Hid (ls[k]?=some ls[k]):=List.getElem?_eq_getElem hlt;obtain⟨c0,c1⟩:=hc' k _ HG.out;have HSn:Hid _:=unpinP_snoc n HG.out;have hgl:(unpinP (ls.take k) n).length<=1000:=by
    have:=List.length_filter_le (fun x:Pd=> !decide (x.name=n)) (ls.take k);unfold unpinP;rw[List.length_take] at this;omega
   clear hc';generalize ls[k]=x at *
   generalize hGk:unpinP (ls.take k) n=gk at *
   have HGk:Hid _:=hGk;clear hGk;by_cases hxn:x.name=n
   ·have hq:(x.name.toList !=n.toList)=false:=by rw[hxn];simp
    have hq2:(x.name.toList==n.toList)=true:=by rw[hxn];simp
    have HE:Hid (unpinP (ls.take (k+1)) n=gk):=by show _=_;rw[HSn.out,if_pos hxn,List.append_nil]
    clear hxn;go_wp2;exact⟨⟨k+1,g,c,by omega,by go_num,by rw[HE.out],⟨by rw[HE.out];exact HI.out.1,HI.out.2⟩⟩,by simp[intOf];omega⟩
   ·have hq2:(x.name.toList==n.toList)=false:=beq_ne hxn
    have hq:(x.name.toList !=n.toList)=true:=by simp[bne,hq2]
    have HE:Hid (unpinP (ls.take (k+1)) n=gk++[x]):=by show _=_;rw[HSn.out,if_neg hxn]
    clear hxn;obtain⟨g8,cap8,w8,hr8,ho8,hg8,hk8⟩:=ppush wr (w.heap.size+2) _ gk HI.out.1 x (by omega) hzr 35;have b8:Below (w.heap.size+2) wr w8:=(Below.refl _ _).grown hg8 hzr (fun q e=>(own_lt HI.out.1 e).1);have H8:Hid (w8.ownsRow (w.heap.size+2) 130 2 (.slice (some ⟨g8,0,none⟩) (gk.length+1) cap8) (gk++[x]).length (rowC pC (gk++[x]))/\Below (w.heap.size+2) W w8):=⟨ho8,HI.out.2.trans b8⟩
    have hbl':b'<wr.heap.size:=by have:=hbr.size;omega
    clear ho8 hg8 hk8 b8;go_wp2_with (at_builtin;refine wpList_append_run rfl _ _ 35 35 rfl rfl rfl hr8 ?_);clear hr8 c0 c1 v0 v1 v2 v3 v4 v5 v6;go_wp2;exact⟨⟨k+1,g8,cap8,by omega,by go_num,by rw[HE.out,List.length_append];rfl,⟨by rw[HE.out,List.length_append];exact List.length_append▸H8.out.1,H8.out.2⟩⟩,by simp[intOf];omega⟩
  ·obtain rfl:k=ls.length:=by omega
   have hO:=HI.out.1;rw[List.take_of_length_le (Nat.le_refl _)] at hO ⊢;have HO:Hid (wr.ownsRow (w.heap.size+2) 130 2 (.slice (some ⟨g,0,none⟩) (unpinP ls n).length c) (unpinP ls n).length (rowC pC (unpinP ls n))):=hO;have HBr:Hid (Below w.heap.size w wr):=hbr;obtain⟨⟨y0,q0⟩,⟨y1,q1⟩,⟨y2,q2⟩,⟨y3,q3⟩,⟨y4,q4⟩,⟨y5,q5⟩,⟨y6,q6⟩,⟨y7,q7⟩,⟨y8,q8⟩,⟨y9,q9⟩,⟨y10,q10⟩,y11,q11⟩:=z12at (HX.out _ HI.out.2).2
   have f6:=((HX.out _ HI.out.2).1 5 _ rfl).2;by_cases hex:∃x∈ls,x.name=n
   ·have hne:¬(unpinP ls n).length=ls.length:=fun e=>(unpinP_len ls n).1 e hex
    have hq:(((unpinP ls n).length:Int)==(ls.length:Int))=false:=by simp;omega
    have HEx:Hid (∃x∈ls,x.name=n):=hex;clear hne hex hO hbr HI;go_wp2;refine bodyPost_ret (v:=.agg #[.int .i64 0,.int .i64 wd,.int .i64 now,.int .i64 given,.int .i64 births,.slice ta tn tc,.slice (some ⟨g,0,none⟩) (unpinP ls n).length c,.slice pa pn pc,.string ⟨#[]⟩,.int .i64 0,.string ⟨#[]⟩,.string ⟨#[]⟩]) (by simp[results,Tryz.results87,go_sem,y0,y1,y2,y3,y4,y5,y6,y7,y8,y9,y10,y11]) rfl ?_
    have T':=(Tn.set (V:=[w.heap.size,w.heap.size+1]) wr w.heap.size 5 (.slice (some ⟨g,0,none⟩) (unpinP ls n).length c) (by simp)).trans (Tn.mono (tn12 (wr.setCell ⟨w.heap.size,5,none⟩ (.slice (some ⟨g,0,none⟩) (unpinP ls n).length c)) (w.heap.size+1) (.int .i64 0) (.int .i64 wd) (.int .i64 now) (.int .i64 given) (.int .i64 births) (.slice ta tn tc) (.slice (some ⟨g,0,none⟩) (unpinP ls n).length c) (.slice pa pn pc) (.string ⟨#[]⟩) (.int .i64 0) (.string ⟨#[]⟩) (.string ⟨#[]⟩)) (by simp))
    exact⟨HBr.out.trans (T'.below HBr.out.size (by intro v hv;simp at hv;omega)),.inr ⟨HEx.out,g,c,rfl,(own_same HO.out (fun q hq=>T'.block q (own_lt HO.out hq).2 (by have:=(own_lt HO.out hq).1;simp;omega))).mono (by omega)⟩⟩
   ·have heq:(unpinP ls n).length=ls.length:=(unpinP_len ls n).2 hex
    have hq:(((unpinP ls n).length:Int)==(ls.length:Int))=true:=by simp;omega
    have HEx:Hid (¬∃x∈ls,x.name=n):=hex;clear heq hex hO hbr HI;go_wp2;refine bodyPost_ret (v:=.agg #[.int .i64 5,.int .i64 0,.int .i64 0,.int .i64 0,.int .i64 0,.slice none 0 0,.slice none 0 0,.slice none 0 0,.string ⟨#[]⟩,.int .i64 0,.string ⟨#[]⟩,.string ⟨#[]⟩]) (by simp[results,Tryz.results87,go_sem,y0,y1,y2,y3,y4,y5,y6,y7,y8,y9,y10,y11]) rfl ?_
    exact⟨HBr.out.trans (Tn.below (tn12 wr (w.heap.size+1) _ _ _ _ _ _ _ _ _ _ _ _) HBr.out.size (by intro v hv;simp at hv;omega)),.inl ⟨HEx.out,rfl⟩⟩
end Go.Proofs.YthkmpihfhkmaoaaGreatDoor
