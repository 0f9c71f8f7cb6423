import Derived.Test.YtpekbmegopfhfaaGreatDoorY08
set_option maxRecDepth 100000
set_option maxHeartbeats 16000000
namespace Go.Proofs.YtpekbmegopfhfaaGreatDoor
open Go.ChangeShapes Go.WideShapes Go.ChangeAt Go.RowKit _root_.Go.Proofs.Tryz
theorem zeros_one (k:Nat):∀v∈(Builtin.zeroCells #[.int .i64 0,.string ⟨#[]⟩,.int .i64 0] k).toList,v.oneCell'=true:=by
 intro v hv;simp only[Builtin.zeroCells,Array.toList_map,List.mem_map] at hv;obtain⟨i,_,rfl⟩:=hv;have h3:i%3=0∨i%3=1∨i%3=2:=by omega
 show(#[Value.int .i64 0,.string ⟨#[]⟩,.int .i64 0][i%3]!).oneCell'=true;rcases h3 with h|h|h<;>rw[h]<;>rfl
theorem run_clear_leases (w:World) (ty:TypeId) (b o k c:Nat) (hk:0<k) (hc:∀j,j<k *3->(w.cell? ⟨b,o+j,none⟩).isSome=true) (hf:∀j,j<k *3->w.frozen? ⟨b,o+j,none⟩=false):
 (Builtin.clear_ #[26] ty #[.slice (some ⟨b,o,none⟩) k c]).run prog w=.ok (.tuple #[]) (w.setCells b o (Builtin.zeroCells #[.int .i64 0,.string ⟨#[]⟩,.int .i64 0] k).toList):=by
 have hl:(Builtin.zeroCells #[.int .i64 0,.string ⟨#[]⟩,.int .i64 0] k).toList.length=k *3:=by rw[Array.length_toList,size_zeroCells];rfl
 have hst:=run_storeCells_cells (P:=prog) b o (Builtin.zeroCells #[.int .i64 0,.string ⟨#[]⟩,.int .i64 0] k).toList 0 w (by rw[hl];simpa using hc) (by rw[hl];simpa using hf) (zeros_one k);simp only[Nat.add_zero] at hst;have hzk:=zeroLease;have hcl:(Value.agg #[.int .i64 0,.string ⟨#[]⟩,.int .i64 0]).cells= #[.int .i64 0,.string ⟨#[]⟩,.int .i64 0]:=rfl;obtain⟨k',rfl⟩:∃k',k=k'+1:=⟨k -1,by omega⟩
 simp[Builtin.clear_,run_underlying underlying26,hzk,hcl,hst]
theorem own_set3 {w:World} {base g cap n:Nat} {ls:List Ld} (h:w.ownsRow base 137 3 (.slice (some ⟨g,0,none⟩) n cap) n (rowC lC ls)) {i:Nat} (hi:i<ls.length) (y:Ld):(((w.setCell ⟨g,i *3,none⟩ (.int .i64 y.num)).setCell ⟨g,i *3+1,none⟩ (.string y.sum)).setCell ⟨g,i *3+2,none⟩ (.int .i64 y.til)).ownsRow base 137 3 (.slice (some ⟨g,0,none⟩) n cap) n (rowC lC (ls.set i y)):=by
 have h1:=(h.stored (i *3) (.int .i64 y.num)).1;have h2:=(h1.stored (i *3+1) (.string y.sum)).1;have h3:=(h2.stored (i *3+2) (.int .i64 y.til)).1;rw[row_setL hi y] at h3;exact h3
structure Mid (ls cur:List Ld) (n:Int) (i j:Nat):Prop where
 len:cur.length=ls.length
 kept:cur.take i=waitL (ls.take j) n
 rest:cur.drop j=ls.drop j
 lt:i<j
 le:j<=ls.length
theorem Mid.start {ls:List Ld} {n:Int} {i:Nat} {x:Ld} (hx:ls[i]?=some x) (ht:x.til<=n) (hb:∀j y,j<i->ls[j]?=some y->n<y.til):Mid ls ls n i (i+1):=by
 have hil:=(List.getElem?_eq_some_iff.1 hx).1;obtain⟨_,e⟩:=List.getElem?_eq_some_iff.1 hx;refine⟨rfl,?_,rfl,by omega,by omega⟩;unfold waitL;rw[List.take_succ_eq_append_getElem hil,List.filter_append,e];have h1:(ls.take i).filter (fun x=> !decide (x.til<=n))=ls.take i:=List.filter_eq_self.2 (fun y hy=>by
  obtain⟨j,hj⟩:=List.getElem?_of_mem hy;have hjl:=(List.getElem?_eq_some_iff.1 hj).1;rw[List.length_take] at hjl;have:=hb j y (by omega) (by rw[List.getElem?_take_of_lt (by omega)] at hj;exact hj);simp;omega)
 rw[h1];simp[ht]
theorem Mid.at {ls cur:List Ld} {n:Int} {i j:Nat} (h:Mid ls cur n i j) (hj:j<ls.length):cur[j]?=some ls[j]:=by
 have:=congrArg (fun l=>l[0]?) h.rest;simp only[List.getElem?_drop,Nat.add_zero] at this;rw[this,List.getElem?_eq_getElem hj]
theorem Mid.skip {ls cur:List Ld} {n:Int} {i j:Nat} (h:Mid ls cur n i j) (hj:j<ls.length) (ht:ls[j].til<=n):Mid ls cur n i (j+1):=by
 refine⟨h.len,?_,?_,by have:=h.lt;omega,by omega⟩
 ·rw[h.kept]
  unfold waitL;rw[List.take_succ_eq_append_getElem hj,List.filter_append];simp[ht]
 ·have:=congrArg (List.drop 1) h.rest
  rw[List.drop_drop,List.drop_drop] at this;exact this
theorem Mid.move {ls cur:List Ld} {n:Int} {i j:Nat} (h:Mid ls cur n i j) (hj:j<ls.length) (ht:n<ls[j].til):Mid ls (cur.set i ls[j]) n (i+1) (j+1):=by
 have hlt:=h.lt;have hlen:=h.len;have hil:i<cur.length:=by omega
 refine⟨by rw[List.length_set];exact hlen,?_,?_,by omega,by omega⟩
 ·have hnt:¬ls[j].til<=n:=by omega
  rw[List.take_succ_eq_append_getElem (by rw[List.length_set];exact hil),List.take_set_of_le (Nat.le_refl _),h.kept,List.getElem_set_self];unfold waitL;rw[List.take_succ_eq_append_getElem hj,List.filter_append];simp[hnt]
 ·have:=congrArg (List.drop 1) h.rest
  rw[List.drop_drop,List.drop_drop] at this;rw[List.drop_set_of_lt (by omega)];exact this
theorem Mid.done {ls cur:List Ld} {n:Int} {i:Nat} (h:Mid ls cur n i ls.length):cur.take i=waitL ls n/\(waitL ls n).length=i:=by
 have h1:=h.kept;rw[List.take_of_length_le (Nat.le_refl _)] at h1;refine⟨h1,?_⟩;rw[←h1,List.length_take];have:=h.lt;have:=h.len;omega
theorem deleteFunc_any (g cap base b d:Nat) (n:Int) (ls:List Ld) (w:World) (ho:w.ownsRow base 137 3 (.slice (some ⟨g,0,none⟩) ls.length cap) ls.length (rowC lC ls)) (hl:ls.length<=200) (hc:w.cell? ⟨b,0,none⟩=some (.pointer (some ⟨d,0,none⟩))) (hn:w.cell? ⟨d,2,none⟩=some (.int .i64 n)) (hbg:b≠g) (hdg:d≠g):
 Calls prog 208 #[.slice (some ⟨g,0,none⟩) ls.length cap,.func (.func 209) #[] #[.pointer (some ⟨b,0,none⟩)]] w fun e w'=>e=.returned (.slice (some ⟨g,0,none⟩) (waitL ls n).length cap)/\w'.ownsRow base 137 3 (.slice (some ⟨g,0,none⟩) (waitL ls n).length cap) (waitL ls n).length (rowC lC (waitL ls n))/\w.grownBy w' (some g):=by
 have hcap:ls.length<=cap/\cap<=maxLen:=by
  rcases ho.2 with⟨e,_⟩|⟨g',cap',cur,e,hb,hg,h1,h2,h3,h4⟩
  ·cases e
  ·cases e;exact⟨h1,h2⟩
 obtain⟨hc1,hc2⟩:=hcap;unfold maxLen at hc2;have HX:Hid _:=indexWait_any (some ⟨g,0,none⟩) cap b d n ls w (LRow.own ho) (by omega) hc hn;have HO:Hid (w.ownsRow base 137 3 (.slice (some ⟨g,0,none⟩) ls.length cap) ls.length (rowC lC ls)):=ho
 have HC:Hid (∀X,w.grownBy X (some g)->X.cell? ⟨b,0,none⟩=some (.pointer (some ⟨d,0,none⟩))/\X.cell? ⟨d,2,none⟩=some (.int .i64 n)):=fun X hX=>⟨hX.cell hc (fun e=>hbg (Option.some.inj e)),hX.cell hn (fun e=>hdg (Option.some.inj e))⟩;clear ho hc hn hbg hdg;go_enter func208,ntmps208;go_wp2_with fail;refine Calls.mono HX.out ?_;rintro e w1 ⟨r,rfl,hr,hb1⟩
 have HO1:Hid (w1.ownsRow base 137 3 (.slice (some ⟨g,0,none⟩) ls.length cap) ls.length (rowC lC ls)):=own_below HO.out hb1;have HG1:Hid (w.grownBy w1 (some g)):=grown_below _ hb1;clear hb1 HX HO;rcases hr with⟨rfl,hall⟩|⟨i,x,rfl,hxi,hxt,hxb⟩
 ·have HE:Hid (waitL ls n=ls):=List.filter_eq_self.2 (fun y hy=>by have:=hall y hy;simp;omega)
  clear hall;go_wp2;go_ret;rw[HE.out];exact⟨rfl,HO1.out,HG1.out⟩
 ·have HM:Hid (Mid ls ls n i (i+1)):=Mid.start hxi hxt hxb
  have hi1:((i:Int)== -1)=false:=by simp
  have hil:i<ls.length:=(List.getElem?_eq_some_iff.1 hxi).1;clear hxi hxt hxb;go_wp2
  go_loopw [5,6] (fun vi vj wr=>∃(ii jj:Nat) (cur:List Ld),vi=.int .i64 ii/\vj=.int .i64 jj/\ii<jj/\jj<=ls.length/\Hid (Mid ls cur n ii jj/\wr.ownsRow base 137 3 (.slice (some ⟨g,0,none⟩) ls.length cap) ls.length (rowC lC cur)/\w.grownBy wr (some g))) (fun _ j _=>ls.length -(intOf j).toNat)
  case atStart=>exact⟨i,i+1,ls,rfl,by go_num,by omega,by omega,HM.out,HO1.out,HG1.out⟩
  case round=>
   clear HM HO1 HG1 hil;obtain⟨ii,jj,cur,rfl,rfl,hij,hjl,HI⟩:=hrel;by_cases hlt:jj<ls.length
   ·have HG:Hid (cur[jj]?=some ls[jj]):=HI.out.1.at hlt
    have HSk:Hid (ls[jj].til<=n->Mid ls cur n ii (jj+1)):=fun h=>HI.out.1.skip hlt h;have HMv:Hid (n<ls[jj].til->Mid ls (cur.set ii ls[jj]) n (ii+1) (jj+1)):=fun h=>HI.out.1.move hlt h;have hcl:cur.length=ls.length:=HI.out.1.len;generalize ls[jj]=x at *
    have hcc:∀k,k<3->wr.cell? ⟨g,jj *3+k,none⟩=(lC x)[k]?:=fun k hk=>(HI.out.2.1.cellAt (jj *3+k) (by omega)).trans (row_get lC_len HG.out hk);have c0:wr.cell? ⟨g,jj *3,none⟩=some (.int .i64 x.num):=by simpa [lC] using hcc 0 (by decide)
    have c1:wr.cell? ⟨g,jj *3+1,none⟩=some (.string x.sum):=by simpa [lC] using hcc 1 (by decide)
    have c2:wr.cell? ⟨g,jj *3+2,none⟩=some (.int .i64 x.til):=by simpa [lC] using hcc 2 (by decide)
    obtain⟨W,hW⟩:∃W,W=wr.alloc (.cells #[.int .i64 x.num,.string x.sum,.int .i64 x.til] 137):=⟨_,rfl⟩;have bW:=(al1 hW).1;have zW:=(al1 hW).2.2;have HZ:Hid (CellsAt W _ _):=(al1 hW).2.2;have hgW:w.grownBy W (some g):=grown_trans HI.out.2.2 (grown_below _ bW)
    have HOW:Hid (W.ownsRow base 137 3 (.slice (some ⟨g,0,none⟩) ls.length cap) ls.length (rowC lC cur)/\w.grownBy W (some g)):=⟨own_below HI.out.2.1 bW,hgW⟩;obtain⟨hb0,hd0⟩:=HC.out W hgW;have hw1:=wait1_any x b d n W hb0 hd0;have HW:Hid _:=hW;have hjl':(jj:Int)<ls.length:=by omega
    have hrl:wr.heap.size<W.heap.size:=zW.lt;clear hW hcc bW zW hgW hb0 hd0 HI;go_upto_region 8 with fail;rw[←HW.out];clear HW c0 c1 c2;obtain⟨z0,z1,z2⟩:=CellsAt.c3 HZ.out 0 1 2;go_wp2_with fail;refine hw1.mono ?_;rintro e w2 ⟨rfl,hb2⟩
    have HO2:Hid (w2.ownsRow base 137 3 (.slice (some ⟨g,0,none⟩) ls.length cap) ls.length (rowC lC cur)/\w.grownBy w2 (some g)):=⟨own_below HOW.out.1 hb2,grown_trans HOW.out.2 (grown_below _ hb2)⟩;have HZ2:=CellsAt.below HZ.out hb2;clear z0 z1 z2 hb2 HOW hw1 HZ;by_cases ht:x.til<=n
    ·have hd:decide (x.til<=n)=true:=by simpa using ht
     have HS:Hid (Mid ls cur n ii (jj+1)):=HSk.out ht;rw[hd];clear hd ht HSk HMv HZ2;go_wp2;exact⟨⟨ii,jj+1,cur,rfl,by go_num,by omega,by omega,HS.out,HO2.out.1,HO2.out.2⟩,by simp[intOf];omega⟩
    ·have hd:decide (x.til<=n)=false:=by simpa using ht
     have HS:Hid (Mid ls (cur.set ii x) n (ii+1) (jj+1)):=HMv.out (Int.not_le.1 ht);have hil:ii<cur.length:=by omega
     have hset:=own_set3 HO2.out.1 hil x;have hfr:∀o,w2.frozen? ⟨g,o,none⟩=false:=fun o=>HO2.out.1.frozenAt o;have hsm:∀k,k<3->∃v,w2.cell? ⟨g,ii *3+k,none⟩=some v:=fun k hk=>⟨_,(HO2.out.1.cellAt (ii *3+k) (by omega)).trans (List.getElem?_eq_getElem (by rw[row_len lC_len];omega))⟩;obtain⟨v0,s0⟩:=hsm 0 (by decide);obtain⟨v1,s1⟩:=hsm 1 (by decide);obtain⟨v2,s2⟩:=hsm 2 (by decide)
     rw[Nat.add_zero] at s0;have q0:=hfr (ii *3);have q1:=hfr (ii *3+1);have q2:=hfr (ii *3+2);have HFin:Hid _:=And.intro hset (grown_trans HO2.out.2 (grown_trans (grown_trans (rd_grown w2 g (ii *3) (.int .i64 x.num)) (rd_grown _ g (ii *3+1) (.string x.sum))) (rd_grown _ g (ii *3+2) (.int .i64 x.til))));obtain⟨z0,z1,z2⟩:=CellsAt.c3 HZ2 0 1 2;have hil':(ii:Int)<ls.length:=by omega
     rw[hd];clear hd ht HSk HMv HZ2 hset hsm hfr;go_wp2;exact⟨⟨ii+1,jj+1,cur.set ii x,by go_num,by go_num,by omega,by omega,HS.out,HFin.out.1,HFin.out.2⟩,by simp[intOf];omega⟩
   ·obtain rfl:jj=ls.length:=by omega
    obtain⟨hk1,hk2⟩:=HI.out.1.done;have hcl:cur.length=ls.length:=HI.out.1.len;have HK:Hid ((waitL ls n).length=ii/\cur.take ii=waitL ls n):=⟨hk2,hk1⟩;have hO:=HI.out.2.1;have HG:Hid (w.grownBy wr (some g)):=HI.out.2.2;have hcut:wr.ownsRow base 137 3 (.slice (some ⟨g,0,none⟩) ii cap) ii (rowC lC (waitL ls n)):=by
     rw[←hk1];have hO':=hO;rw[←hcl] at hO';exact own_cutR lC_len hO' ii (by omega)
    have hf1:∀j,j<(ls.length -ii) *3->(wr.cell? ⟨g,ii *3+j,none⟩).isSome=true/\wr.frozen? ⟨g,ii *3+j,none⟩=false:=fun j hj=>by
     refine⟨?_,hO.frozenAt _⟩;rw[hO.cellAt (ii *3+j) (by omega),List.getElem?_eq_getElem (by rw[row_len lC_len];omega)];rfl
    have hclr:=run_clear_leases wr 0 g (ii *3) (ls.length -ii) (cap -ii) (by omega) (fun j hj=>(hf1 j hj).1) (fun j hj=>(hf1 j hj).2);have HCut:Hid _:=hcut;have e1:ii<=ls.length:=by omega
    have e2:¬cap=ii:=by omega
    have e3:ii<=cap:=by omega
    clear hk1 hk2 hO hcut hf1 HI;go_wp2;go_ret;rw[HK.out.1];exact⟨rfl,own_past _ _ _ HCut.out (Nat.le_refl _),grown_trans HG.out (grown_setC g _ _ _)⟩
theorem deleteFunc_nil (a:Option Addr) (cap b d:Nat) (n:Int) (w:World) (hc:w.cell? ⟨b,0,none⟩=some (.pointer (some ⟨d,0,none⟩))) (hn:w.cell? ⟨d,2,none⟩=some (.int .i64 n)):
 Calls prog 208 #[.slice a 0 cap,.func (.func 209) #[] #[.pointer (some ⟨b,0,none⟩)]] w fun e w'=>e=.returned (.slice a 0 cap)/\Below w.heap.size w w':=by
 have HX:Hid _:=indexWait_any a cap b d n [] w (.inl rfl) (by simp) hc hn;go_enter func208,ntmps208;go_wp2_with fail;refine Calls.mono HX.out ?_;rintro e w1 ⟨r,rfl,hr,hb1⟩;rcases hr with⟨rfl,_⟩|⟨i,x,_,hxi,_⟩
 ·go_wp2
  go_ret;exact⟨rfl,hb1⟩
 ·simp at hxi
theorem deleteFuncV (base b d:Nat) (L:Value) (n:Int) (ls:List Ld) (w:World) (ho:w.ownsRow base 137 3 L ls.length (rowC lC ls)) (hl:ls.length<=200) (hc:w.cell? ⟨b,0,none⟩=some (.pointer (some ⟨d,0,none⟩))) (hn:w.cell? ⟨d,2,none⟩=some (.int .i64 n)) (hbg:L.ownBlock≠some b) (hdg:L.ownBlock≠some d):
 Calls prog 208 #[L,.func (.func 209) #[] #[.pointer (some ⟨b,0,none⟩)]] w fun e w'=>∃a c,e=.returned (.slice a (waitL ls n).length c)/\w'.ownsRow base 137 3 (.slice a (waitL ls n).length c) (waitL ls n).length (rowC lC (waitL ls n))/\w.grownBy w' L.ownBlock/\(Value.slice a (waitL ls n).length c).ownBlock=L.ownBlock:=by
 rcases ho.2 with⟨rfl,hz⟩|⟨g,cap,cur,rfl,_⟩
 ·have:ls=[]:=List.eq_nil_of_length_eq_zero hz
  subst this;refine(deleteFunc_nil none 0 b d n w hc hn).mono ?_;rintro e w' ⟨rfl,hb⟩;exact⟨none,0,rfl,World.ownsRow_nil _ _ _ _,grown_below _ hb,rfl⟩
 ·refine(deleteFunc_any g cap base b d n ls w ho hl hc hn (fun e=>hbg (by rw[e];rfl)) (fun e=>hdg (by rw[e];rfl))).mono ?_
  rintro e w' ⟨rfl,h1,h2⟩;exact⟨_,_,rfl,h1,h2,rfl⟩
theorem wait_yes (base d m:Nat) (O P L:Value) (wd now given births:Int) (ks:List Kd) (ps:List Pd) (ls:List Ld) (ticks:Int) (w:World) (h:DU w base d m O P L wd now given births ks ps ls) (hl:ls.length<=200) (hn0:0<=now) (ht0:0<=ticks) (hs:now+ticks<=1000000000):
 Calls prog 173 #[.pointer (some ⟨d,0,none⟩),.int .i64 ticks] w fun e w'=>e=.returned (.tuple #[])/\∃L',DU w' base d m O P L' wd (now+ticks) given births ks ps (waitL ls (now+ticks))/\Tn (d::L.ownBlock.toList) w w':=by
 obtain⟨la,lcp,hLe⟩:=own_val h.dr.lea;subst hLe;have hdl:=h.dr.box.lt;obtain⟨W,hW⟩:∃W,W=w.alloc (.cells #[.pointer (some ⟨d,0,none⟩)] 82):=⟨_,rfl⟩;have bW:=(al1 hW).1;have zW:=(al1 hW).2.2;have hD:=h.below bW;obtain⟨X,hX⟩:∃X,X=W.setCell ⟨d,2,none⟩ (.int .i64 (now+ticks)):=⟨_,rfl⟩;have tX:Tn [d] W X:=by rw[hX];exact tn1 _ _ _ _
 have hbX:CellsAt X d [.int .i64 wd,.map (some m),.int .i64 (now+ticks),.int .i64 given,.int .i64 births,O,P,.slice la ls.length lcp]:=by rw[hX];exact hD.dr.box.set 2 _
 have zX:CellsAt X w.heap.size [.pointer (some ⟨d,0,none⟩)]:=CellsAt.same zW (tX.block _ zW.lt (by simp;omega));have hLn:∀g,(Value.slice la ls.length lcp).ownBlock=some g->g≠d:=fun g hg=>((ap_parts h.dr.ap).2.2.2 g hg).1;have hlX:X.ownsRow base 137 3 (.slice la ls.length lcp) ls.length (rowC lC ls):=own_same hD.dr.lea (fun g hg=>tX.block g (own_lt hD.dr.lea hg).2 (by simp;exact hLn g hg))
 have hbg:(Value.slice la ls.length lcp).ownBlock≠some w.heap.size:=fun e=>by have:=(own_lt h.dr.lea e).2;omega
 have hdg:(Value.slice la ls.length lcp).ownBlock≠some d:=fun e=>hLn d e rfl
 have HF:Hid (∀Y,Below X.heap.size X Y->Calls prog 208 #[.slice la ls.length lcp,.func (.func 209) #[] #[.pointer (some ⟨w.heap.size,0,none⟩)]] Y fun e w'=>∃a c,e=.returned (.slice a (waitL ls (now+ticks)).length c)/\w'.ownsRow base 137 3 (.slice a (waitL ls (now+ticks)).length c) (waitL ls (now+ticks)).length (rowC lC (waitL ls (now+ticks)))/\Y.grownBy w' (Value.slice la ls.length lcp).ownBlock/\(Value.slice a (waitL ls (now+ticks)).length c).ownBlock=(Value.slice la ls.length lcp).ownBlock):=fun Y hY=>
  deleteFuncV base w.heap.size d _ (now+ticks) ls Y (own_below hlX hY) hl ((CellsAt.below zX hY) 0 _ rfl).1 ((hbX.below hY) 2 _ rfl).1 hbg hdg
 have HD:Hid (DU W base d m O P (.slice la ls.length lcp) wd now given births ks ps ls):=hD;have HBW:Hid (Below w.heap.size w W):=bW;have HTX:Hid (Tn [d] W X):=tX;have HBX:Hid (CellsAt X d [.int .i64 wd,.map (some m),.int .i64 (now+ticks),.int .i64 given,.int .i64 births,O,P,.slice la ls.length lcp]):=hbX;have HZX:Hid (CellsAt X w.heap.size [.pointer (some ⟨d,0,none⟩)]):=zX;have HW:Hid _:=hW
 have HX:Hid _:=hX;obtain⟨z0,_⟩:=zW 0 _ rfl;obtain⟨c2,f2⟩:=hD.dr.box 2 _ rfl;have hwr:IntKind.i64.wrap (now+ticks)=now+ticks:=wrap_sum hn0 (by omega) ht0 (by omega);have hgt:¬(1000000000<now+ticks):=by omega
 clear h bW zW hD hX hW tX hbX zX hlX;go_enter func173,ntmps173;go_upto_region 1 with fail;rw[←HW.out];clear HW;go_upto_region 4 with fail;rw[←HX.out];clear HX z0 c2 f2;have D0:Below X.heap.size X X.drew:=(Below.refl _ _).drew;obtain⟨z0,_⟩:=HZX.out 0 _ rfl;obtain⟨c7,_⟩:=HBX.out 7 _ rfl
 go_region_with (go_at_call 208;refine Calls.mono (HF.out X.drew D0) ?_;rintro e w2 ⟨va,vc,rfl,ho2,hg2,hv2⟩;have hb2:CellsAt w2 d [.int .i64 wd,.map (some m),.int .i64 (now+ticks),.int .i64 given,.int .i64 births,O,P,.slice la ls.length lcp]:=CellsAt.same HBX.out (hg2.block d HBX.out.lt (fun e=>hdg e.symm));have hz2:CellsAt w2 w.heap.size [.pointer (some ⟨d,0,none⟩)]:=CellsAt.same HZX.out (hg2.block w.heap.size HZX.out.lt (fun e=>hbg e.symm));obtain⟨g7,k7⟩:=hb2 7 _ rfl;obtain⟨y0,_⟩:=hz2 0 _ rfl)
 all_goals
  have hK:∃L',DU (w2.setCell ⟨d,7,none⟩ (.slice va (waitL ls (now+ticks)).length vc)) base d m O P L' wd (now+ticks) given births ks ps (waitL ls (now+ticks))/\Tn (d::(Value.slice la ls.length lcp).ownBlock.toList) w (w2.setCell ⟨d,7,none⟩ (.slice va (waitL ls (now+ticks)).length vc)):=by
   have t1:Tn (d::(Value.slice la ls.length lcp).ownBlock.toList) W (w2.setCell ⟨d,7,none⟩ (.slice va (waitL ls (now+ticks)).length vc)):=
    ((HTX.out.mono (by simp)).trans ((Tn.of D0).trans ((tn_grown hg2).mono (fun b hb=>List.mem_cons_of_mem _ hb)))).trans ((tn1 w2 d 7 _).mono (by simp))
   exact⟨_,HD.out.newL t1 (hb2.set 7 _) (own_set ho2 (fun b hb=>hLn b (hv2▸hb)) 7 _) (.inl hv2),(Tn.of HBW.out).trans t1⟩
  have HK:Hid _:=hK;clear hK ho2 hg2 hb2 hz2 z0 c7;go_wp2
  go_end0
  exact⟨rfl,HK.out⟩
theorem l4Held_any (wd now given births:Int) (T:Value) (p l:Option Addr) (pc lc:Nat) (ps:List Pd) (ls:List Ld) (s:ByteArray) (w:World) (hp:PRow w w.heap.size p ps) (hl:LRow w w.heap.size l ls) (hpl:ps.length<=1000) (hll:ls.length<=1000):
 Calls prog 133 #[.agg #[.int .i64 wd,.int .i64 now,.int .i64 given,.int .i64 births,T,.slice p ps.length pc,.slice l ls.length lc],.string s] w fun e w'=>Says ((∃p∈ps,p.sum=s)∨∃l∈ls,l.sum=s) w w' e:=by
 have HPR:Hid _:=hp;have HLR:Hid _:=hl;have hx:=SBox.new w wd now given births T (.slice p ps.length pc) (.slice l ls.length lc) 28;have hb0:Below w.heap.size w (w.alloc (.cells #[.int .i64 wd,.int .i64 now,.int .i64 given,.int .i64 births,T,.slice p ps.length pc,.slice l ls.length lc] 28)):=(Below.refl _ _).alloc (Nat.le_refl _) _
 obtain⟨W,hW⟩:∃W,W=w.alloc (.cells #[.int .i64 wd,.int .i64 now,.int .i64 given,.int .i64 births,T,.slice p ps.length pc,.slice l ls.length lc] 28):=⟨_,rfl⟩;rw[←hW] at hx hb0;have HW:Hid _:=hW;clear hp hl hW;obtain⟨q0,q1,q2,q3,q4,q5,q6,q7⟩:=hx;clear q0 q1 q2 q3 q4;go_enter func133,ntmps133;go_upto_region 1 with fail;rw[←HW.out];clear HW;go_wp2
 go_loop [5] (fun i=>∃k:Nat,k<=ps.length/\i=.int .i64 k/\Hid (∀j x,j<k->ps[j]?=some x->¬x.sum=s)) (fun i=>ps.length -(intOf i).toNat)
 case atStart=>exact⟨0,Nat.zero_le _,rfl,(fun j x h=>by omega)⟩
 case round=>
  obtain⟨k,hk,rfl,hall⟩:=hrel;by_cases hlt:k<ps.length
  ·obtain⟨b,off,ha,hb,hc⟩:=(PRow.below HPR.out hb0).at hlt
   subst ha;have HG:Hid (ps[k]?=some ps[k]):=List.getElem?_eq_getElem hlt;obtain⟨c0,c1⟩:=hc k _ HG.out;clear hc;generalize ps[k]=x at *
   by_cases h:x.sum=s
   ·have hq:(x.sum.toList==s.toList)=true:=by rw[h];simp
    have Hh:Hid _:=h;clear h;go_wp2;refine bodyPost_ret (results_tmp rfl _ _ _) rfl ?_;exact Says.yes (.inl ⟨x,List.mem_of_getElem? HG.out,Hh.out⟩) hb0
   ·have hq:(x.sum.toList==s.toList)=false:=beq_ne h
    have HA:Hid (∀j y,j<k+1->ps[j]?=some y->¬y.sum=s):=by
     intro j y hj hy;rcases Nat.lt_or_ge j k with h'|h'
     ·exact hall.out j y h' hy
     ·obtain rfl:j=k:=by omega
      rw[HG.out] at hy;cases hy;exact h
    clear h;go_wp2;exact⟨⟨k+1,by omega,by go_num,HA⟩,by simp[intOf];omega⟩
  ·have HNP:Hid (¬∃p∈ps,p.sum=s):=by
    rintro⟨y,hy,hys⟩;obtain⟨j,hj,rfl⟩:=List.getElem_of_mem hy;exact hall.out j _ (by omega) (List.getElem?_eq_getElem hj) hys
   clear hall;go_wp2
   go_loop [6] (fun i=>∃k:Nat,k<=ls.length/\i=.int .i64 k/\Hid (∀j x,j<k->ls[j]?=some x->¬x.sum=s)) (fun i=>ls.length -(intOf i).toNat)
   case atStart=>exact⟨0,Nat.zero_le _,rfl,(fun j x h=>by omega)⟩
   case round=>
    obtain⟨k,hk,rfl,hall⟩:=hrel;by_cases hlt:k<ls.length
    ·obtain⟨b,off,ha,hb,hc⟩:=(LRow.below HLR.out hb0).at hlt
     subst ha;have HG:Hid (ls[k]?=some ls[k]):=List.getElem?_eq_getElem hlt;obtain⟨c0,c1,c2⟩:=hc k _ HG.out;clear hc;generalize ls[k]=x at *
     by_cases h:x.sum=s
     ·have hq:(x.sum.toList==s.toList)=true:=by rw[h];simp
      have Hh:Hid _:=h;clear h;go_wp2;refine bodyPost_ret (results_tmp rfl _ _ _) rfl ?_;exact Says.yes (.inr ⟨x,List.mem_of_getElem? HG.out,Hh.out⟩) hb0
     ·have hq:(x.sum.toList==s.toList)=false:=beq_ne h
      have HA:Hid (∀j y,j<k+1->ls[j]?=some y->¬y.sum=s):=by
       intro j y hj hy;rcases Nat.lt_or_ge j k with h'|h'
       ·exact hall.out j y h' hy
       ·obtain rfl:j=k:=by omega
        rw[HG.out] at hy;cases hy;exact h
      clear h;go_wp2;exact⟨⟨k+1,by omega,by go_num,HA⟩,by simp[intOf];omega⟩
    ·go_wp2
     refine bodyPost_ret (results_tmp rfl _ _ _) rfl ?_;refine Says.no (fun e=> ?_) hb0;rcases e with e|⟨y,hy,hys⟩
     ·exact absurd e HNP.out
     ·obtain⟨j,hj,rfl⟩:=List.getElem_of_mem hy
      exact absurd hys (hall.out j _ (by omega) (List.getElem?_eq_getElem hj))
theorem has_any (a:Option Addr) (cap:Nat) (ss:List ByteArray) (s:ByteArray) (w:World) (B:Nat) (hrow:SRow w B a ss) (hl:ss.length<=1048576):
 Calls prog 115 #[.slice a ss.length cap,.string s] w fun e w'=>e=.returned (.bool (ss.any (fun x=>decide (x=s))))/\w'=w:=by
 go_enter func115,ntmps115;go_wp2
 go_loop [5] (fun i=>∃k:Nat,k<=ss.length/\i=.int .i64 k/\Hid (∀j x,j<k->ss[j]?=some x->x≠s)) (fun i=>ss.length -(intOf i).toNat)
 case atStart=>exact⟨0,Nat.zero_le _,rfl,fun j x h=>by omega⟩
 case round=>
  obtain⟨k,hk,rfl,hall⟩:=hrel;by_cases hlt:k<ss.length
  ·obtain⟨b,off,ha,hb,hc⟩:=hrow.at hlt
   subst ha;have hg:Hid (ss[k]?=some ss[k]):=List.getElem?_eq_getElem hlt;have c0:=hc k _ hg;clear hc hrow;generalize ss[k]=x at *
   by_cases he:x=s
   ·subst he
    have hh:Hid (ss.any (fun y=>decide (y=x))=true):=by
     show _=_;rw[List.any_eq_true];exact⟨x,List.mem_of_getElem? hg.out,by simp⟩
    go_wp2;go_ret;exact⟨ret_b hh.out.symm,rfl⟩
   ·have hne:=beq_ne he
    have HA:Hid (∀j y,j<k+1->ss[j]?=some y->y≠s):=by
     intro j y hj hy;rcases Nat.lt_or_ge j k with h'|h'
     ·exact hall.out j y h' hy
     ·obtain rfl:j=k:=by omega
      rw[hg.out] at hy;cases hy;exact he
    clear he hall hg;go_wp2;exact⟨⟨k+1,by omega,by go_num,HA⟩,by simp[intOf];omega⟩
  ·go_wp2
   go_ret;refine⟨ret_b ?_,rfl⟩
   symm
   rw[List.any_eq_false];intro x hx;obtain⟨j,hj⟩:=List.getElem?_of_mem hx;simpa using hall.out j x (by have:=(List.getElem?_eq_some_iff.1 hj).1;omega) hj
def ZRow (w:World) (b off:Nat) (zs:List (Kd×Value)):Prop:=
 ∀i z,zs[i]?=some z->(w.cell? ⟨b,off+i *4,none⟩=some (.string z.1.sum)/\w.cell? ⟨b,off+i *4+1,none⟩=some (.int .i64 z.1.born)/\w.cell? ⟨b,off+i *4+2,none⟩=some (.string z.1.text)/\w.cell? ⟨b,off+i *4+3,none⟩=some z.2)/\∃ad rc,z.2=.slice (some ad) z.1.refs.length rc/\SRow w w.heap.size (some ad) z.1.refs
theorem ZRow.below {w w':World} {b off:Nat} {zs:List (Kd×Value)} (h:ZRow w b off zs) (hb:Below w.heap.size w w') (hl:b<w.heap.size):ZRow w' b off zs:=by
 intro i z hz;obtain⟨⟨h0,h1,h2,h3⟩,ad,rc,h4,h5⟩:=h i z hz;exact⟨⟨(hb.cell (p:=⟨b,off+i *4,none⟩) hl).trans h0,(hb.cell (p:=⟨b,off+i *4+1,none⟩) hl).trans h1,(hb.cell (p:=⟨b,off+i *4+2,none⟩) hl).trans h2,(hb.cell (p:=⟨b,off+i *4+3,none⟩) hl).trans h3⟩,ad,rc,h4,SRow.mono (SRow.below h5 hb) hb.size⟩
theorem ZRow.krow {w:World} {b off:Nat} {zs:List (Kd×Value)} (h:ZRow w b off zs) (hl:b<w.heap.size):KRow w w.heap.size (some ⟨b,off,none⟩) (zs.map (·.1)):=by
 refine .inr ⟨b,off,rfl,hl,fun i k hk=> ?_⟩;rw[List.getElem?_map] at hk;cases hz:zs[i]? with
 |none=>rw[hz] at hk;cases hk
 |some z=>
  rw[hz] at hk;cases hk;obtain⟨⟨h0,h1,h2,h3⟩,ad,rc,h4,h5⟩:=h i z hz;exact⟨h0,h1,h2,some ad,rc,by rw[h3,h4],h5⟩
theorem ZRow.own {w:World} {base g cap:Nat} {zs:List (Kd×Value)} (ho:w.ownsRow base 114 4 (.slice (some ⟨g,0,none⟩) zs.length cap) zs.length (rowC kC zs)) (hs:∀z∈zs,∃ad rc,z.2=.slice (some ad) z.1.refs.length rc/\SRow w w.heap.size (some ad) z.1.refs):ZRow w g 0 zs:=by
 intro i z hz;have hi:=(List.getElem?_eq_some_iff.1 hz).1;have hc:∀j,j<4->w.cell? ⟨g,i *4+j,none⟩=(kC z)[j]?:=fun j hj=>(ho.cellAt (i *4+j) (by omega)).trans (row_get kC_len4 hz hj);refine⟨⟨?_,?_,?_,?_⟩,hs z (List.mem_of_getElem? hz)⟩
 ·rw[Nat.zero_add];simpa [kC] using hc 0 (by decide)
 ·rw[Nat.zero_add];simpa [kC] using hc 1 (by decide)
 ·rw[Nat.zero_add];simpa [kC] using hc 2 (by decide)
 ·rw[Nat.zero_add];simpa [kC] using hc 3 (by decide)
def dropZ (zs:List (Kd×Value)) (s:ByteArray):List (Kd×Value):=zs.filter (fun z=> !decide (z.1.sum=s))
theorem dropZ_map (zs:List (Kd×Value)) (s:ByteArray):(dropZ zs s).map (·.1)=dropK (zs.map (·.1)) s:=by
 unfold dropZ dropK;rw[List.filter_map];rfl
theorem dropZ_snoc {zs:List (Kd×Value)} {k:Nat} {z:Kd×Value} (s:ByteArray) (hz:zs[k]?=some z):dropZ (zs.take (k+1)) s=dropZ (zs.take k) s++(if z.1.sum=s then [] else [z]):=by
 obtain⟨hlt,rfl⟩:=List.getElem?_eq_some_iff.1 hz;unfold dropZ;rw[List.take_succ_eq_append_getElem hlt,List.filter_append];by_cases h:zs[k].1.sum=s<;>simp[h]
theorem sbox_of {w:World} {b:Nat} {wd now given births:Int} {T P L:Value} (h:CellsAt w b [.int .i64 wd,.int .i64 now,.int .i64 given,.int .i64 births,T,P,L]):SBox w b wd now given births T P L:=
 ⟨(h 0 _ rfl).1,(h 1 _ rfl).1,(h 2 _ rfl).1,(h 3 _ rfl).1,(h 4 _ rfl).1,(h 5 _ rfl).1,(h 6 _ rfl).1,h.lt⟩
def InUse (ps:List Pd) (ls:List Ld) (ks:List Kd) (s:ByteArray):Prop:=((∃p∈ps,p.sum=s)∨∃l∈ls,l.sum=s)∨∃k∈ks,s∈k.refs
def Dropped (w w':World) (e:Ending) (wd now given births:Int) (P L:Value) (zs:List (Kd×Value)) (ps:List Pd) (ls:List Ld) (s:ByteArray):Prop:=
 Below w.heap.size w w'/\((InUse ps ls (zs.map (·.1)) s/\e=.returned (.agg #[.int .i64 6,.int .i64 0,.int .i64 0,.int .i64 0,.int .i64 0,.slice none 0 0,.slice none 0 0,.slice none 0 0,.string ⟨#[]⟩,.int .i64 0,.string ⟨#[]⟩,.string ⟨#[]⟩]))∨
  (¬InUse ps ls (zs.map (·.1)) s/\∃g c,e=.returned (.agg #[.int .i64 0,.int .i64 wd,.int .i64 now,.int .i64 given,.int .i64 births,.slice (some ⟨g,0,none⟩) (dropZ zs s).length c,P,L,.string ⟨#[]⟩,.int .i64 0,.string ⟨#[]⟩,.string ⟨#[]⟩])/\ZRow w' g 0 (dropZ zs s)/\w.heap.size<=g/\g<w'.heap.size))
theorem l4Drop_any (wd now given births:Int) (b off ac pc lc:Nat) (p l:Option Addr) (zs:List (Kd×Value)) (ps:List Pd) (ls:List Ld) (s:ByteArray) (w:World) (hz:ZRow w b off zs) (hbl:b<w.heap.size) (hp:PRow w w.heap.size p ps) (hl:LRow w w.heap.size l ls) (hzl:zs.length<=600) (hpl:ps.length<=100) (hll:ls.length<=200) (hr:∀z∈zs,z.1.refs.length<=1000) (hth:There (zs.map (·.1)) s):
 Calls prog 91 #[.agg #[.int .i64 wd,.int .i64 now,.int .i64 given,.int .i64 births,.slice (some ⟨b,off,none⟩) zs.length ac,.slice p ps.length pc,.slice l ls.length lc],.string s] w fun e w'=>Dropped w w' e wd now given births (.slice p ps.length pc) (.slice l ls.length lc) zs ps ls s:=by
 obtain⟨W,hW⟩:∃W,W=(w.alloc (.cells #[.int .i64 wd,.int .i64 now,.int .i64 given,.int .i64 births,.slice (some ⟨b,off,none⟩) zs.length ac,.slice p ps.length pc,.slice l ls.length lc] 28)).alloc (.cells #[.int .i64 0,.int .i64 0,.int .i64 0,.int .i64 0,.int .i64 0,.slice none 0 0,.slice none 0 0,.slice none 0 0,.string ⟨#[]⟩,.int .i64 0,.string ⟨#[]⟩,.string ⟨#[]⟩] 30):=⟨_,rfl⟩;have hB:=(al2 hW).1
 have hzW:=(al2 hW).2.1;have xW:SBox W w.heap.size wd now given births (.slice (some ⟨b,off,none⟩) zs.length ac) (.slice p ps.length pc) (.slice l ls.length lc):=by rw[hW];exact SBox.keep (SBox.new w wd now given births _ _ _ 28) ((Below.refl _ _).alloc (Nat.le_refl _) _) (by simp)
 have zR:CellsAt W (w.heap.size+1) z12:=by
  have h1:=CellsAt.new (w.alloc (.cells #[.int .i64 wd,.int .i64 now,.int .i64 given,.int .i64 births,.slice (some ⟨b,off,none⟩) zs.length ac,.slice p ps.length pc,.slice l ls.length lc] 28)) z12 30;rw[World.size_alloc] at h1;rw[hW];exact h1
 have HF:=find_any wd now given births (some ⟨b,off,none⟩) ac (.slice p ps.length pc) (.slice l ls.length lc) (zs.map (·.1)) s W w.heap.size (KRow.below (hz.krow hbl) hB) hB.size (by rw[List.length_map];omega);rw[List.length_map] at HF;have hfi:0<=findI (zs.map (·.1)) s:=by
  rcases findI_cases (zs.map (·.1)) s with⟨_,hn⟩|⟨i,k,e,_⟩
  ·exact absurd hth hn
  ·omega
 have HFF:Hid _:=HF;have HZR:Hid _:=zR;have HCW:Hid (CellsAt W _ _):=(al2 hW).2.2.1;have hzR12:w.heap.size+1<W.heap.size:=by omega
 have HZ:Hid _:=hz;have HPL:Hid _:=And.intro hp hl;have HW:Hid _:=hW;have HXW:Hid _:=xW;clear hW hz hp hl zR HF hth;obtain⟨x0,x1,x2,x3,x4,x5,x6,x7⟩:=xW;go_enter func91,ntmps91;go_upto_region 1 with fail;rw[←HW.out];clear HW;go_wp2_with fail;refine Calls.mono HFF.out ?_;rintro e w1 ⟨rfl,hb1⟩;have hd1:¬findI (zs.map (·.1)) s<0:=by omega
 have HX1:Hid _:=SBox.below HXW.out hb1;obtain⟨y0,y1,y2,y3,y4,y5,y6,y7⟩:=HX1.out;have hB1:Below w.heap.size w w1:=hB.trans (hb1.mono hB.size);clear x0 x1 x2 x3 x4 x5 x6 HFF;generalize findI (zs.map (·.1)) s=fi at *
 go_wp2_with fail;refine(l4Held_any wd now given births (.slice (some ⟨b,off,none⟩) zs.length ac) p l pc lc ps ls s w1 (PRow.mono (PRow.below HPL.out.1 hB1) hB1.size) (LRow.mono (LRow.below HPL.out.2 hB1) hB1.size) (by omega) (by omega)).mono ?_;rintro e w2 ⟨ok,rfl,hok,hb2⟩;have hB2:Below w.heap.size w w2:=hB1.trans (hb2.mono hB1.size);have HX2:Hid _:=SBox.below HX1.out hb2
 have z2:CellsAt w2 (w.heap.size+1) z12:=CellsAt.below (v:=.int .i64 0) (CellsAt.below (v:=.int .i64 0) HZR.out hb1) hb2;have HZ2:Hid _:=z2;have HOK:Hid _:=hok;clear hok y0 y1 y2 y3 y4 y5 y6 z2;cases ok
 ·obtain⟨v0,v1,v2,v3,v4,v5,v6,v7⟩:=HX2.out
  have hw2:w.heap.size+2<=w2.heap.size:=by have:=hb1.size;have:=hb2.size;omega
  have bA:Below w2.heap.size w2 (w2.alloc (.cells #[] 114)):=(Below.refl _ _).alloc (Nat.le_refl _) _;go_wp2
  go_loopw [5,6] (fun v i wr=>∃(k g c:Nat),k<=zs.length/\i=.int .i64 k/\v=.slice (some ⟨g,0,none⟩) (dropZ (zs.take k) s).length c/\Hid (wr.ownsRow (w.heap.size+2) 114 4 (.slice (some ⟨g,0,none⟩) (dropZ (zs.take k) s).length c) (dropZ (zs.take k) s).length (rowC kC (dropZ (zs.take k) s))/\(∀z∈zs.take k,¬s∈z.1.refs)/\CellsAt wr w.heap.size [.int .i64 wd,.int .i64 now,.int .i64 given,.int .i64 births,.slice (some ⟨b,off,none⟩) zs.length ac,.slice p ps.length pc,.slice l ls.length lc]/\CellsAt wr (w.heap.size+1) z12/\Below w.heap.size w wr)) (fun _ i _=>zs.length -(intOf i).toNat)
  case atStart=>
   refine⟨0,w2.heap.size,0,Nat.zero_le _,rfl,by simp[dropZ],⟨?_,(fun z hz=>by simp at hz),CellsAt.below (CellsAt.below (CellsAt.below HCW.out hb1) hb2) bA,CellsAt.below (v:=.int .i64 0) HZ2.out bA,hB2.trans (bA.mono hB2.size)⟩⟩;have:=World.ownsRow_lit (base:=w.heap.size+2) (e:=114) (size:=4) w2 #[] 0 hw2 (by unfold maxLen;omega) rfl;simpa [dropZ,rowC] using this
  case round=>
   clear HX1 HXW HZ2 HX2 v0 v1 v2 v3 v4 v5 v6 v7 bA;obtain⟨k,g,c,hk,rfl,rfl,HI⟩:=hrel;obtain⟨v0,v1,v2,v3,v4,v5,v6,v7⟩:=sbox_of HI.out.2.2.1;have hbel:=HI.out.2.2.2.2;have hzr:=hbel.size;by_cases hlt:k<zs.length
   ·have HG:Hid (zs[k]?=some zs[k]):=List.getElem?_eq_getElem hlt
    obtain⟨⟨c0,c1,c2,c3⟩,ad,rc,h4,h5⟩:=(ZRow.below HZ.out hbel hbl) k _ HG.out;have hr1:=hr _ (List.getElem_mem hlt);have HSn:Hid _:=dropZ_snoc s HG.out;have hbr:b<wr.heap.size:=by omega
    have HSR:Hid _:=h5;have HTk:Hid (zs.take (k+1)=zs.take k++[zs[k]]):=List.take_succ_eq_append_getElem hlt;rw[h4] at c3;have H4:Hid _:=h4;clear h5 h4;generalize zs[k]=z at *
    have hdl:(dropZ (zs.take k) s).length<=600:=by
     have:=List.length_filter_le (fun z:Kd×Value=> !decide (z.1.sum=s)) (zs.take k);unfold dropZ;rw[List.length_take] at this;omega
    go_wp2_with fail;refine(has_any (some ad) rc z.1.refs s wr wr.heap.size HSR.out (by omega)).mono ?_;rintro e w3 ⟨rfl,rfl⟩;by_cases hin:s∈z.1.refs
    ·have hd:z.1.refs.any (fun x=>decide (x=s))=true:=by simpa using hin
     rw[hd];obtain⟨⟨y0,q0⟩,⟨y1,q1⟩,⟨y2,q2⟩,⟨y3,q3⟩,⟨y4,q4⟩,⟨y5,q5⟩,⟨y6,q6⟩,⟨y7,q7⟩,⟨y8,q8⟩,⟨y9,q9⟩,⟨y10,q10⟩,y11,q11⟩:=z12at HI.out.2.2.2.1;have Hin:Hid _:=hin;clear hin hd c0 c1 c2 c3 v0 v1 v2 v3 v4 v5 v6;go_wp2
     refine bodyPost_ret (v:=.agg #[.int .i64 6,.int .i64 0,.int .i64 0,.int .i64 0,.int .i64 0,.slice none 0 0,.slice none 0 0,.slice none 0 0,.string ⟨#[]⟩,.int .i64 0,.string ⟨#[]⟩,.string ⟨#[]⟩]) (by simp[results,results91,go_sem,y0,y1,y2,y3,y4,y5,y6,y7,y8,y9,y10,y11]) rfl ⟨hbel.trans (Tn.below (tn12 _ (w.heap.size+1) _ _ _ _ _ _ _ _ _ _ _ _) hbel.size (by simp)),.inl ⟨.inr ⟨z.1,List.mem_map.2 ⟨z,List.mem_of_getElem? HG.out,rfl⟩,Hin.out⟩,rfl⟩⟩
    ·have hd:z.1.refs.any (fun x=>decide (x=s))=false:=by
      rw[List.any_eq_false];intro x hx e;exact hin (of_decide_eq_true e▸hx)
     rw[hd];have HNo:Hid (∀y∈zs.take (k+1),¬s∈y.1.refs):=by
      rw[HTk.out];intro y hy;rcases List.mem_append.1 hy with hy|hy
      ·exact HI.out.2.1 y hy
      ·simp at hy
       rw[hy];exact hin
     clear hin hd;by_cases hzs:z.1.sum=s
     ·have hq:(z.1.sum.toList !=s.toList)=false:=by rw[hzs];simp
      have hq2:(z.1.sum.toList==s.toList)=true:=by rw[hzs];simp
      have hsn:=HSn.out;rw[if_pos hzs,List.append_nil] at hsn;have HSe:Hid _:=hsn;clear hsn hzs;go_wp2;exact⟨⟨k+1,g,c,by omega,by go_num,by rw[HSe.out],⟨by rw[HSe.out];exact HI.out.1,HNo.out,HI.out.2.2⟩⟩,by simp[intOf];omega⟩
     ·have hq2:(z.1.sum.toList==s.toList)=false:=beq_ne hzs
      have hq:(z.1.sum.toList !=s.toList)=true:=by simp[bne,hq2]
      have hsn:=HSn.out;rw[if_neg hzs] at hsn;have HSe:Hid _:=hsn;clear hsn hzs;obtain⟨i0,hi,hz0,hz1,hz2⟩:=info_parts infoKept;have hgl:=own_lt HI.out.1 (g:=g) rfl;go_wp2_with (first
       |(at_builtin;refine wpList_append_own_at _ rfl _ _ 24 rfl (w.heap.size+2) 114 i0 _ 4 64 underlying24 hi hz0 hz1 hz2 rfl (by decide) _ (dropZ (zs.take k) s).length (rowC kC (dropZ (zs.take k) s)) rfl ?d0 ⟨w3.heap.size,0,none⟩ 1 1 (kC (z.1,.slice (some ad) z.1.refs.length rc)) rfl rfl ?d2 ?d3 ?d4 ?d5 ?d6 ?_)
       |go_in)
      case d0=>exact own_below HI.out.1 ((Below.refl _ _).alloc (Nat.le_refl _) _)
      case d2=>
       intro j u hu;rw[Go.WideShapes.add_plain,Nat.zero_add];exact((CellsAt.new w3 (kC (z.1,.slice (some ad) z.1.refs.length rc)) 114) j u hu).1
      case d3=>
       intro u hu;simp[kC] at hu;rcases hu with rfl|rfl|rfl|rfl<;>rfl
      case d4=>unfold maxLen;omega
      case d5=>omega
      case d6=>simp;omega
      intro v4 w4 ho4 hg4 hn4 ha4;obtain⟨g4,c4,rfl,hg4a,hg4b⟩:=own_form ho4 (fun e=>by subst e;rcases ho4.2 with⟨_,hn⟩|⟨_,_,_,e,_⟩<;>first|omega|cases e);have b4:Below w3.heap.size w3 (w3.alloc (.cells #[.string z.1.sum,.int .i64 z.1.born,.string z.1.text,.slice (some ad) z.1.refs.length rc] 114)):=(Below.refl _ _).alloc (Nat.le_refl _) _
      have hg4':w3.grownBy w4 (some g):=grown_trans (grown_below _ b4) hg4;have hz2:z.2=.slice (some ad) z.1.refs.length rc:=H4.out;have hDl:(dropZ (zs.take (k+1)) s).length=(dropZ (zs.take k) s).length+1:=by rw[HSe.out];simp
      have hDc:rowC kC (dropZ (zs.take (k+1)) s)=rowC kC (dropZ (zs.take k) s)++kC (z.1,.slice (some ad) z.1.refs.length rc):=by
       rw[HSe.out,row_append,←hz2];simp[rowC]
      have HF:Hid (w4.ownsRow (w.heap.size+2) 114 4 (.slice (some ⟨g4,0,none⟩) (dropZ (zs.take (k+1)) s).length c4) (dropZ (zs.take (k+1)) s).length (rowC kC (dropZ (zs.take (k+1)) s))/\(∀y∈zs.take (k+1),¬s∈y.1.refs)/\CellsAt w4 w.heap.size [.int .i64 wd,.int .i64 now,.int .i64 given,.int .i64 births,.slice (some ⟨b,off,none⟩) zs.length ac,.slice p ps.length pc,.slice l ls.length lc]/\CellsAt w4 (w.heap.size+1) z12/\Below w.heap.size w w4):=by
       refine⟨by rw[hDl,hDc];exact ho4,HNo.out,?_,?_,hbel.grown hg4' (by omega) (fun q hq=>by cases hq;omega)⟩
       ·exact CellsAt.far' HI.out.2.2.1 hg4' (by omega)
       ·exact CellsAt.far' (v:=.int .i64 0) HI.out.2.2.2.1 hg4' (by omega)
      clear ho4 hg4 hg4' hn4 ha4 b4 hDc hz2 c0 c1 c2 c3 v0 v1 v2 v3 v4 v5 v6;have HDl:Hid _:=hDl;clear hDl;go_wp2;exact⟨⟨k+1,g4,c4,by omega,by go_num,by rw[HDl.out],HF⟩,by simp[intOf];omega⟩
   ·obtain rfl:k=zs.length:=by omega
    have hIe:=HI.out;rw[List.take_of_length_le (Nat.le_refl _)] at hIe;obtain⟨h1,h2,h3,h4,h5⟩:=hIe;have hgl:=own_lt h1 (g:=g) rfl;have HE:Hid _:=And.intro h1 (And.intro h2 h5);obtain⟨⟨y0,q0⟩,⟨y1,q1⟩,⟨y2,q2⟩,⟨y3,q3⟩,⟨y4,q4⟩,⟨y5,q5⟩,⟨y6,q6⟩,⟨y7,q7⟩,⟨y8,q8⟩,⟨y9,q9⟩,⟨y10,q10⟩,y11,q11⟩:=z12at h4;have f4:=(h3 4 _ rfl).2;have H3:Hid _:=h3;clear h1 h2 h3 h4 h5;rw[List.take_of_length_le (Nat.le_refl _)]
    go_wp2;have T:∀a0 a1 a2 a3 a4 a5 a6 a7 a8 a9 a10 a11 c4,Tn [w.heap.size,w.heap.size+1] wr _:=fun a0 a1 a2 a3 a4 a5 a6 a7 a8 a9 a10 a11 c4=>(Tn.set (V:=[w.heap.size,w.heap.size+1]) wr w.heap.size 4 c4 (by simp)).trans (Tn.mono (tn12 (wr.setCell ⟨w.heap.size,4,none⟩ c4) (w.heap.size+1) a0 a1 a2 a3 a4 a5 a6 a7 a8 a9 a10 a11) (by simp))
    refine bodyPost_ret (v:=.agg #[.int .i64 0,.int .i64 wd,.int .i64 now,.int .i64 given,.int .i64 births,.slice (some ⟨g,0,none⟩) (dropZ zs s).length c,.slice p ps.length pc,.slice l ls.length lc,.string ⟨#[]⟩,.int .i64 0,.string ⟨#[]⟩,.string ⟨#[]⟩]) (by simp[results,results91,go_sem,y0,y1,y2,y3,y4,y5,y6,y7,y8,y9,y10,y11]) rfl ?_
    have T':=T (.int .i64 0) (.int .i64 wd) (.int .i64 now) (.int .i64 given) (.int .i64 births) (.slice (some ⟨g,0,none⟩) (dropZ zs s).length c) (.slice p ps.length pc) (.slice l ls.length lc) (.string ⟨#[]⟩) (.int .i64 0) (.string ⟨#[]⟩) (.string ⟨#[]⟩) (.slice (some ⟨g,0,none⟩) (dropZ zs s).length c);have hBX:=HE.out.2.2.trans (Tn.below T' HE.out.2.2.size (by simp))
    refine⟨hBX,.inr ⟨?_,g,c,rfl,ZRow.own (own_same HE.out.1 (fun q hq=>T'.block q (own_lt HE.out.1 hq).2 (by have:=(own_lt HE.out.1 hq).1;simp;omega))) (fun z hz=> ?_),by omega,Nat.lt_of_lt_of_le hgl.2 T'.size⟩⟩
    ·rintro(h|⟨x,hx,hs⟩)
     ·have:=HOK.out.2 h
      simp at this
     ·obtain⟨z,hz,rfl⟩:=List.mem_map.1 hx
      exact HE.out.2.1 z hz hs
    ·obtain⟨i,hi⟩:=List.getElem?_of_mem (List.mem_filter.1 hz).1
     obtain⟨_,ad,rc,e,hs⟩:=HZ.out i z hi;exact⟨ad,rc,e,SRow.mono (SRow.below hs hBX) hBX.size⟩
 ·obtain⟨⟨y0,q0⟩,⟨y1,q1⟩,⟨y2,q2⟩,⟨y3,q3⟩,⟨y4,q4⟩,⟨y5,q5⟩,⟨y6,q6⟩,⟨y7,q7⟩,⟨y8,q8⟩,⟨y9,q9⟩,⟨y10,q10⟩,y11,q11⟩:=z12at HZ2.out
  go_wp2
  refine bodyPost_ret (v:=.agg #[.int .i64 6,.int .i64 0,.int .i64 0,.int .i64 0,.int .i64 0,.slice none 0 0,.slice none 0 0,.slice none 0 0,.string ⟨#[]⟩,.int .i64 0,.string ⟨#[]⟩,.string ⟨#[]⟩]) (by simp[results,results91,go_sem,y0,y1,y2,y3,y4,y5,y6,y7,y8,y9,y10,y11]) rfl ⟨hB2.trans (Tn.below (tn12 w2 (w.heap.size+1) _ _ _ _ _ _ _ _ _ _ _ _) hB2.size (by simp)),.inl ⟨.inl (HOK.out.1 trivial),rfl⟩⟩
theorem giveL_snoc {ls:List Ld} {k:Nat} {x:Ld} (n:Int) (hx:ls[k]?=some x):giveL (ls.take (k+1)) n=giveL (ls.take k) n++(if x.num=n then [] else [x]):=by
 obtain⟨hlt,rfl⟩:=List.getElem?_eq_some_iff.1 hx;unfold giveL;rw[List.take_succ_eq_append_getElem hlt,List.filter_append];by_cases h:ls[k].num=n<;>simp[h]
theorem giveL_len (ls:List Ld) (n:Int):(giveL ls n).length=ls.length↔¬∃x∈ls,x.num=n:=by
 unfold giveL;rw[List.length_filter_eq_length_iff];simp
def GiveTo (w w':World) (e:Ending) (wd now given births:Int) (T P:Value) (ls:List Ld) (n:Int):Prop:=
 Below w.heap.size w w'/\(((¬∃x∈ls,x.num=n)/\e=.returned (.agg #[.int .i64 5,.int .i64 0,.int .i64 0,.int .i64 0,.int .i64 0,.slice none 0 0,.slice none 0 0,.slice none 0 0,.string ⟨#[]⟩,.int .i64 0,.string ⟨#[]⟩,.string ⟨#[]⟩]))∨
  ((∃x∈ls,x.num=n)/\∃g c,e=.returned (.agg #[.int .i64 0,.int .i64 wd,.int .i64 now,.int .i64 given,.int .i64 births,T,P,.slice (some ⟨g,0,none⟩) (giveL ls n).length c,.string ⟨#[]⟩,.int .i64 0,.string ⟨#[]⟩,.string ⟨#[]⟩])/\w'.ownsRow w.heap.size 137 3 (.slice (some ⟨g,0,none⟩) (giveL ls n).length c) (giveL ls n).length (rowC lC (giveL ls n))))
theorem l4Give_any (wd now given births:Int) (ta pa la:Option Addr) (tn tc pn pc lc:Nat) (ls:List Ld) (n:Int) (w:World) (hrow:LRow w w.heap.size la ls) (hl:ls.length<=1000):
 Calls prog 89 #[.agg #[.int .i64 wd,.int .i64 now,.int .i64 given,.int .i64 births,.slice ta tn tc,.slice pa pn pc,.slice la ls.length lc],.int .i64 n] w fun e w'=>GiveTo w w' e wd now given births (.slice ta tn tc) (.slice pa pn pc) ls n:=by
 obtain⟨W,hW⟩:∃W,W=(w.alloc (.cells #[.int .i64 wd,.int .i64 now,.int .i64 given,.int .i64 births,.slice ta tn tc,.slice pa pn pc,.slice la ls.length lc] 28)).alloc (.cells #[.int .i64 0,.int .i64 0,.int .i64 0,.int .i64 0,.int .i64 0,.slice none 0 0,.slice none 0 0,.slice none 0 0,.string ⟨#[]⟩,.int .i64 0,.string ⟨#[]⟩,.string ⟨#[]⟩] 30):=⟨_,rfl⟩;have bW:=(al2 hW).1;have hzW:=(al2 hW).2.1
 have x0:=(al2 hW).2.2.1;have x1:CellsAt W (w.heap.size+1) z12:=by
  have h1:=CellsAt.new (w.alloc (.cells #[.int .i64 wd,.int .i64 now,.int .i64 given,.int .i64 births,.slice ta tn tc,.slice pa pn pc,.slice la ls.length lc] 28)) z12 30;rw[World.size_alloc] at h1;rw[hW];exact h1
 have HX:Hid (∀X,Below (w.heap.size+2) W X->CellsAt X w.heap.size [.int .i64 wd,.int .i64 now,.int .i64 given,.int .i64 births,.slice ta tn tc,.slice pa pn pc,.slice la ls.length lc]/\CellsAt X (w.heap.size+1) z12):=fun X hX=>⟨CellsAt.same x0 (hX.block _ (by omega)),CellsAt.same x1 (hX.block _ (by omega))⟩;have HW:Hid _:=hW;have HzW:Hid (W.heap.size=w.heap.size+2):=hzW
 have hzW2:w.heap.size+2<=W.heap.size:=by omega
 have HR:Hid (LRow w w.heap.size la ls):=hrow;have HBW:Hid (Below w.heap.size w W):=bW;have bA:Below W.heap.size W (W.alloc (.cells #[] 137)):=(Below.refl _ _).alloc (Nat.le_refl _) _
 have HOA:Hid ((W.alloc (.cells #[] 137)).ownsRow (w.heap.size+2) 137 3 (.slice (some ⟨W.heap.size,0,none⟩) 0 0) 0 []):=World.ownsRow_lit (base:=w.heap.size+2) (e:=137) (size:=3) W #[] 0 (by omega) (by unfold maxLen;omega) rfl;have HBA:Hid (Below (w.heap.size+2) W (W.alloc (.cells #[] 137))):=bA.mono hzW2;clear hW hzW x0 x1 hrow bW bA;go_enter func89,ntmps89;go_upto_region 1 with fail;rw[←HW.out]
 clear HW;go_wp2
 go_loopw [5,6] (fun v i wr=>∃(k g c:Nat),k<=ls.length/\i=.int .i64 k/\v=.slice (some ⟨g,0,none⟩) (giveL (ls.take k) n).length c/\Hid (wr.ownsRow (w.heap.size+2) 137 3 (.slice (some ⟨g,0,none⟩) (giveL (ls.take k) n).length c) (giveL (ls.take k) n).length (rowC lC (giveL (ls.take k) n))/\Below (w.heap.size+2) W wr)) (fun _ i _=>ls.length -(intOf i).toNat)
 case atStart=>exact⟨0,W.heap.size,0,Nat.zero_le _,rfl,by simp[giveL],⟨by simpa [giveL,rowC] using HOA.out,HBA.out⟩⟩
 case round=>
  clear HOA HBA;obtain⟨k,g,c,hk,rfl,rfl,HI⟩:=hrel;have hbr:Below w.heap.size w wr:=HBW.out.trans (HI.out.2.mono (by omega));have hzr:w.heap.size+2<=wr.heap.size:=Nat.le_trans hzW2 HI.out.2.size;obtain⟨v0,v1,v2,v3,v4,v5,v6,v7⟩:=sbox_of (HX.out _ HI.out.2).1;by_cases hlt:k<ls.length
  ·obtain⟨b',off,ha,hb,hc'⟩:=(LRow.below HR.out hbr).at hlt
   subst ha;have HG:Hid (ls[k]?=some ls[k]):=List.getElem?_eq_getElem hlt;obtain⟨c0,c1,c2⟩:=hc' k _ HG.out;have HSn:Hid _:=giveL_snoc n HG.out;have hgl:(giveL (ls.take k) n).length<=1000:=by
    have:=List.length_filter_le (fun x:Ld=> !decide (x.num=n)) (ls.take k);unfold giveL;rw[List.length_take] at this;omega
   clear hc';generalize ls[k]=x at *
   generalize hGk:giveL (ls.take k) n=gk at *
   have HGk:Hid _:=hGk;clear hGk;by_cases hxn:x.num=n
   ·have hq:(x.num !=n)=false:=by simp[hxn]
    have HE:Hid (giveL (ls.take (k+1)) n=gk):=by show _=_;rw[HSn.out,if_pos hxn,List.append_nil]
    clear hxn;go_wp2;exact⟨⟨k+1,g,c,by omega,by go_num,by rw[HE.out],⟨by rw[HE.out];exact HI.out.1,HI.out.2⟩⟩,by simp[intOf];omega⟩
   ·have hq:(x.num !=n)=true:=by simp[hxn]
    have HE:Hid (giveL (ls.take (k+1)) n=gk++[x]):=by show _=_;rw[HSn.out,if_neg hxn]
    clear hxn;obtain⟨g8,cap8,w8,hr8,ho8,hg8,hk8⟩:=lpush wr (w.heap.size+2) _ gk HI.out.1 x (by omega) hzr 26;have b8:Below (w.heap.size+2) wr w8:=(Below.refl _ _).grown hg8 hzr (fun q e=>(own_lt HI.out.1 e).1);have H8:Hid (w8.ownsRow (w.heap.size+2) 137 3 (.slice (some ⟨g8,0,none⟩) (gk.length+1) cap8) (gk++[x]).length (rowC lC (gk++[x]))/\Below (w.heap.size+2) W w8):=⟨ho8,HI.out.2.trans b8⟩
    have hbl':b'<wr.heap.size:=by have:=hbr.size;omega
    clear ho8 hg8 hk8 b8;go_wp2_with (at_builtin;refine wpList_append_run rfl _ _ 26 26 rfl rfl rfl hr8 ?_);clear hr8 c0 c1 c2 v0 v1 v2 v3 v4 v5 v6;go_wp2;exact⟨⟨k+1,g8,cap8,by omega,by go_num,by rw[HE.out,List.length_append];rfl,⟨by rw[HE.out,List.length_append];exact List.length_append▸H8.out.1,H8.out.2⟩⟩,by simp[intOf];omega⟩
  ·obtain rfl:k=ls.length:=by omega
   have hO:=HI.out.1;rw[List.take_of_length_le (Nat.le_refl _)] at hO ⊢;have HO:Hid (wr.ownsRow (w.heap.size+2) 137 3 (.slice (some ⟨g,0,none⟩) (giveL ls n).length c) (giveL ls n).length (rowC lC (giveL ls n))):=hO;have HBr:Hid (Below w.heap.size w wr):=hbr;obtain⟨⟨y0,q0⟩,⟨y1,q1⟩,⟨y2,q2⟩,⟨y3,q3⟩,⟨y4,q4⟩,⟨y5,q5⟩,⟨y6,q6⟩,⟨y7,q7⟩,⟨y8,q8⟩,⟨y9,q9⟩,⟨y10,q10⟩,y11,q11⟩:=z12at (HX.out _ HI.out.2).2
   have f6:=((HX.out _ HI.out.2).1 6 _ rfl).2;by_cases hex:∃x∈ls,x.num=n
   ·have hne:¬(giveL ls n).length=ls.length:=fun e=>(giveL_len ls n).1 e hex
    have hq:(((giveL ls n).length:Int)==(ls.length:Int))=false:=by simp;omega
    have HEx:Hid (∃x∈ls,x.num=n):=hex;clear hne hex hO hbr HI;go_wp2;refine bodyPost_ret (v:=.agg #[.int .i64 0,.int .i64 wd,.int .i64 now,.int .i64 given,.int .i64 births,.slice ta tn tc,.slice pa pn pc,.slice (some ⟨g,0,none⟩) (giveL ls n).length c,.string ⟨#[]⟩,.int .i64 0,.string ⟨#[]⟩,.string ⟨#[]⟩]) (by simp[results,results89,go_sem,y0,y1,y2,y3,y4,y5,y6,y7,y8,y9,y10,y11]) rfl ?_
    have T':=(Tn.set (V:=[w.heap.size,w.heap.size+1]) wr w.heap.size 6 (.slice (some ⟨g,0,none⟩) (giveL ls n).length c) (by simp)).trans (Tn.mono (tn12 (wr.setCell ⟨w.heap.size,6,none⟩ (.slice (some ⟨g,0,none⟩) (giveL ls n).length c)) (w.heap.size+1) (.int .i64 0) (.int .i64 wd) (.int .i64 now) (.int .i64 given) (.int .i64 births) (.slice ta tn tc) (.slice pa pn pc) (.slice (some ⟨g,0,none⟩) (giveL ls n).length c) (.string ⟨#[]⟩) (.int .i64 0) (.string ⟨#[]⟩) (.string ⟨#[]⟩)) (by simp))
    exact⟨HBr.out.trans (T'.below HBr.out.size (by intro v hv;simp at hv;omega)),.inr ⟨HEx.out,g,c,rfl,(own_same HO.out (fun q hq=>T'.block q (own_lt HO.out hq).2 (by have:=(own_lt HO.out hq).1;simp;omega))).mono (by omega)⟩⟩
   ·have heq:(giveL ls n).length=ls.length:=(giveL_len ls n).2 hex
    have hq:(((giveL ls n).length:Int)==(ls.length:Int))=true:=by simp;omega
    have HEx:Hid (¬∃x∈ls,x.num=n):=hex;clear heq hex hO hbr HI;go_wp2;refine bodyPost_ret (v:=.agg #[.int .i64 5,.int .i64 0,.int .i64 0,.int .i64 0,.int .i64 0,.slice none 0 0,.slice none 0 0,.slice none 0 0,.string ⟨#[]⟩,.int .i64 0,.string ⟨#[]⟩,.string ⟨#[]⟩]) (by simp[results,results89,go_sem,y0,y1,y2,y3,y4,y5,y6,y7,y8,y9,y10,y11]) rfl ?_
    exact⟨HBr.out.trans (Tn.below (tn12 wr (w.heap.size+1) _ _ _ _ _ _ _ _ _ _ _ _) HBr.out.size (by intro v hv;simp at hv;omega)),.inl ⟨HEx.out,rfl⟩⟩
end Go.Proofs.YtpekbmegopfhfaaGreatDoor
