import Derived.Test.YthkmpihfhkmaoaaGreatDoorV12
import Derived.Test.YthkmpihfhkmaoaaGreatDoorV09
namespace Go.Proofs.YthkmpihfhkmaoaaGreatDoor
open Go.ChangeShapes Go.WideShapes Go.ChangeAt Go.RowKit
set_option maxHeartbeats 1000000 in
theorem deleteFunc_nil (a:Option Addr) (cap b d:Nat) (n:Int) (w:World) (hc:w.cell? ⟨b,0,none⟩=some (.pointer (some ⟨d,0,none⟩))) (hn:w.cell? ⟨d,2,none⟩=some (.int .i64 n)):
 Calls Tryz.prog 178 #[.slice a 0 cap,.func (.func 179) #[] #[.pointer (some ⟨b,0,none⟩)]] w fun e w'=>e=.returned (.slice a 0 cap)/\Below w.heap.size w w':=by
 have HX:Hid _:=indexWait_any a cap b d n [] w (.inl rfl) (by simp) hc hn;go_enter Tryz.func178,Tryz.ntmps178;go_wp2_with fail;refine Calls.mono HX.out ?_;rintro e w1 ⟨r,rfl,hr,hb1⟩;rcases hr with⟨rfl,_⟩|⟨i,x,_,hxi,_⟩
 ·go_wp2
  go_ret;exact⟨rfl,hb1⟩
 ·simp at hxi
theorem deleteFuncV (base b d:Nat) (L:Value) (n:Int) (ls:List Ld) (w:World) (ho:w.ownsRow base 131 3 L ls.length (rowC lC ls)) (hl:ls.length<=200) (hc:w.cell? ⟨b,0,none⟩=some (.pointer (some ⟨d,0,none⟩))) (hn:w.cell? ⟨d,2,none⟩=some (.int .i64 n)) (hbg:L.ownBlock≠some b) (hdg:L.ownBlock≠some d):
 Calls Tryz.prog 178 #[L,.func (.func 179) #[] #[.pointer (some ⟨b,0,none⟩)]] w fun e w'=>∃a c,e=.returned (.slice a (waitL ls n).length c)/\w'.ownsRow base 131 3 (.slice a (waitL ls n).length c) (waitL ls n).length (rowC lC (waitL ls n))/\w.grownBy w' L.ownBlock/\(Value.slice a (waitL ls n).length c).ownBlock=L.ownBlock:=by
 rcases ho.2 with⟨rfl,hz⟩|⟨g,cap,cur,rfl,_⟩
 ·have:ls=[]:=List.eq_nil_of_length_eq_zero hz
  subst this;refine(deleteFunc_nil none 0 b d n w hc hn).mono ?_;rintro e w' ⟨rfl,hb⟩;exact⟨none,0,rfl,World.ownsRow_nil _ _ _ _,grown_below _ hb,rfl⟩
 ·refine(deleteFunc_any g cap base b d n ls w ho hl hc hn (fun e=>hbg (by rw[e];rfl)) (fun e=>hdg (by rw[e];rfl))).mono ?_
  rintro e w' ⟨rfl,h1,h2⟩;exact⟨_,_,rfl,h1,h2,rfl⟩
set_option maxRecDepth 20000 in
set_option maxHeartbeats 4000000 in
theorem wait_yes (base d m:Nat) (O P L:Value) (wd now given births:Int) (ks:List Kd) (ps:List Pd) (ls:List Ld) (ticks:Int) (w:World) (h:DU w base d m O P L wd now given births ks ps ls) (hl:ls.length<=200) (hn0:0<=now) (ht0:0<=ticks) (hs:now+ticks<=1000000000):
 Calls Tryz.prog 148 #[.pointer (some ⟨d,0,none⟩),.int .i64 ticks] w fun e w'=>e=.returned (.tuple #[])/\∃L',DU w' base d m O P L' wd (now+ticks) given births ks ps (waitL ls (now+ticks))/\Tn (d::L.ownBlock.toList) w w':=by
 obtain⟨la,lcp,hLe⟩:=own_val h.dr.lea;subst hLe;have hdl:=h.dr.box.lt;obtain⟨W,hW⟩:∃W,W=w.alloc (.cells #[.pointer (some ⟨d,0,none⟩)] 86):=⟨_,rfl⟩;have bW:Below w.heap.size w W:=by rw[hW];exact(Below.refl _ _).alloc (Nat.le_refl _) _
 have zW:CellsAt W w.heap.size [.pointer (some ⟨d,0,none⟩)]:=by rw[hW];exact CellsAt.new w _ _
 have hD:=h.below bW;obtain⟨X,hX⟩:∃X,X=W.setCell ⟨d,2,none⟩ (.int .i64 (now+ticks)):=⟨_,rfl⟩;have tX:Tn [d] W X:=by rw[hX];exact tn1 _ _ _ _
 have hbX:CellsAt X d [.int .i64 wd,.map (some m),.int .i64 (now+ticks),.int .i64 given,.int .i64 births,O,P,.slice la ls.length lcp]:=by rw[hX];exact hD.dr.box.set 2 _
 have zX:CellsAt X w.heap.size [.pointer (some ⟨d,0,none⟩)]:=CellsAt.same zW (tX.block _ zW.lt (by simp;omega));have hLn:∀g,(Value.slice la ls.length lcp).ownBlock=some g->g≠d:=fun g hg=>((ap_parts h.dr.ap).2.2.2 g hg).1;have hlX:X.ownsRow base 131 3 (.slice la ls.length lcp) ls.length (rowC lC ls):=own_same hD.dr.lea (fun g hg=>tX.block g (own_lt hD.dr.lea hg).2 (by simp;exact hLn g hg))
 have hbg:(Value.slice la ls.length lcp).ownBlock≠some w.heap.size:=fun e=>by have:=(own_lt h.dr.lea e).2;omega
 have hdg:(Value.slice la ls.length lcp).ownBlock≠some d:=fun e=>hLn d e rfl
 have HF:Hid (∀Y,Below X.heap.size X Y->Calls Tryz.prog 178 #[.slice la ls.length lcp,.func (.func 179) #[] #[.pointer (some ⟨w.heap.size,0,none⟩)]] Y fun e w'=>∃a c,e=.returned (.slice a (waitL ls (now+ticks)).length c)/\w'.ownsRow base 131 3 (.slice a (waitL ls (now+ticks)).length c) (waitL ls (now+ticks)).length (rowC lC (waitL ls (now+ticks)))/\Y.grownBy w' (Value.slice la ls.length lcp).ownBlock/\(Value.slice a (waitL ls (now+ticks)).length c).ownBlock=(Value.slice la ls.length lcp).ownBlock):=fun Y hY=>
  deleteFuncV base w.heap.size d _ (now+ticks) ls Y (own_below hlX hY) hl ((CellsAt.below zX hY) 0 _ rfl).1 ((hbX.below hY) 2 _ rfl).1 hbg hdg
 have HD:Hid (DU W base d m O P (.slice la ls.length lcp) wd now given births ks ps ls):=hD;have HBW:Hid (Below w.heap.size w W):=bW;have HTX:Hid (Tn [d] W X):=tX;have HBX:Hid (CellsAt X d [.int .i64 wd,.map (some m),.int .i64 (now+ticks),.int .i64 given,.int .i64 births,O,P,.slice la ls.length lcp]):=hbX;have HZX:Hid (CellsAt X w.heap.size [.pointer (some ⟨d,0,none⟩)]):=zX;have HW:Hid _:=hW
 have HX:Hid _:=hX;obtain⟨z0,_⟩:=zW 0 _ rfl;obtain⟨c2,f2⟩:=hD.dr.box 2 _ rfl;have hwr:IntKind.i64.wrap (now+ticks)=now+ticks:=wrap_sum hn0 (by omega) ht0 (by omega);have hgt:¬(1000000000<now+ticks):=by omega
 clear h bW zW hD hX hW tX hbX zX hlX;go_enter Tryz.func148,Tryz.ntmps148;go_upto_region 1 with fail;rw[←HW.out];clear HW;go_upto_region 4 with fail;rw[←HX.out];clear HX z0 c2 f2;have D0:Below X.heap.size X X.drew:=(Below.refl _ _).drew;obtain⟨z0,_⟩:=HZX.out 0 _ rfl;obtain⟨c7,_⟩:=HBX.out 7 _ rfl
 go_region_with (go_at_call 178;refine Calls.mono (HF.out X.drew D0) ?_;rintro e w2 ⟨va,vc,rfl,ho2,hg2,hv2⟩;have hb2:CellsAt w2 d [.int .i64 wd,.map (some m),.int .i64 (now+ticks),.int .i64 given,.int .i64 births,O,P,.slice la ls.length lcp]:=CellsAt.same HBX.out (hg2.block d HBX.out.lt (fun e=>hdg e.symm));have hz2:CellsAt w2 w.heap.size [.pointer (some ⟨d,0,none⟩)]:=CellsAt.same HZX.out (hg2.block w.heap.size HZX.out.lt (fun e=>hbg e.symm));obtain⟨g7,k7⟩:=hb2 7 _ rfl;obtain⟨y0,_⟩:=hz2 0 _ rfl)
 all_goals
  have hK:∃L',DU (w2.setCell ⟨d,7,none⟩ (.slice va (waitL ls (now+ticks)).length vc)) base d m O P L' wd (now+ticks) given births ks ps (waitL ls (now+ticks))/\Tn (d::(Value.slice la ls.length lcp).ownBlock.toList) w (w2.setCell ⟨d,7,none⟩ (.slice va (waitL ls (now+ticks)).length vc)):=by
   have t1:Tn (d::(Value.slice la ls.length lcp).ownBlock.toList) W (w2.setCell ⟨d,7,none⟩ (.slice va (waitL ls (now+ticks)).length vc)):=
    ((HTX.out.mono (by simp)).trans ((Tn.of D0).trans ((tn_grown hg2).mono (fun b hb=>List.mem_cons_of_mem _ hb)))).trans ((tn1 w2 d 7 _).mono (by simp))
   exact⟨_,HD.out.newL t1 (hb2.set 7 _) (own_set ho2 (fun b hb=>hLn b (hv2▸hb)) 7 _) (.inl hv2),(Tn.of HBW.out).trans t1⟩
  have HK:Hid _:=hK;clear hK ho2 hg2 hb2 hz2 z0 c7;go_wp2
  go_end0
  exact⟨rfl,HK.out⟩
end Go.Proofs.YthkmpihfhkmaoaaGreatDoor
namespace Go.Proofs.YthkmpihfhkmaoaaGreatDoor
open Go.ChangeShapes Go.WideShapes Go.ChangeAt Go.RowKit
set_option maxHeartbeats 1000000 in
theorem need_no (base d m:Nat) (O P L:Value) (wd now given births:Int) (ks:List Kd) (ps:List Pd) (ls:List Ld) (s:ByteArray) (w:World) (hd:Dr w base d m O P L wd now given births ks ps ls) (hsz:∀k∈ks,(k.sum.size:Int)=wd) (hth:¬There ks s):
 Calls Tryz.prog 169 #[.pointer (some ⟨d,0,none⟩),.string s] w fun e w'=>e=.panicked [{v:=refV 2 ⟨#[]⟩ ⟨#[]⟩,recovered:=false}]/\Below w.heap.size w w':=by
 obtain⟨n,f,hn,hM,hH⟩:=hd.map;obtain⟨ok,hok,hcl⟩:=shelf_has wd m n f ks w w.heap.size s w hM hH.holds hsz;have hf:ok=false:=by
  cases ok with
  |false=>rfl
  |true=>exact absurd (hok.1 rfl) hth
 subst hf;obtain⟨c0,_⟩:=hd.box 0 _ rfl;obtain⟨c1,_⟩:=hd.box 1 _ rfl;have HC:Hid _:=hcl w (Below.refl _ _);clear hd hM hH hok hcl;go_enter Tryz.func169,Tryz.ntmps169;go_wp2_with fail;refine Calls.mono HC.out ?_;rintro e w1 ⟨rfl,hb1⟩;go_wp2;exact⟨rfl,rfl,hb1⟩
set_option maxHeartbeats 1000000 in
theorem lend_missing (base d m:Nat) (O P L:Value) (wd now given births:Int) (ks:List Kd) (ps:List Pd) (ls:List Ld) (s:ByteArray) (ticks:Int) (w:World) (h:DU w base d m O P L wd now given births ks ps ls) (hsz:∀k∈ks,(k.sum.size:Int)=wd) (hth:¬There ks s):
 Calls Tryz.prog 144 #[.pointer (some ⟨d,0,none⟩),.string s,.int .i64 ticks] w fun e w'=>e=.panicked [{v:=refV 2 ⟨#[]⟩ ⟨#[]⟩,recovered:=false}]/\Below w.heap.size w w':=by
 have HN:Hid _:=need_no base d m O P L wd now given births ks ps ls s w h.dr hsz hth;clear h hsz hth;go_enter Tryz.func144,Tryz.ntmps144;go_wp2_with fail;refine Calls.mono HN.out ?_;rintro e w1 ⟨rfl,hb1⟩;go_wp2;exact⟨rfl,rfl,hb1⟩
set_option maxHeartbeats 1000000 in
theorem lend_full (base d m:Nat) (O P L:Value) (wd now given births:Int) (ks:List Kd) (ps:List Pd) (ls:List Ld) (s:ByteArray) (ticks:Int) (w:World) (h:DU w base d m O P L wd now given births ks ps ls) (hsz:∀k∈ks,(k.sum.size:Int)=wd) (hth:There ks s) (hfull:ls.length=200∨given=1000000000):
 Calls Tryz.prog 144 #[.pointer (some ⟨d,0,none⟩),.string s,.int .i64 ticks] w fun e w'=>e=.panicked [{v:=refV 4 ⟨#[]⟩ ⟨#[]⟩,recovered:=false}]/\Below w.heap.size w w':=by
 have HN:Hid _:=need_yes base d m O P L wd now given births ks ps ls s w h.dr hsz hth;obtain⟨la,lcp,hLe⟩:=own_val h.dr.lea;subst hLe;have HD:Hid (DU w base d m O P (.slice la ls.length lcp) wd now given births ks ps ls):=h;clear h hsz hth;by_cases h1:ls.length=200
 ·have hll:((ls.length:Int)==200)=true:=by simp;omega
  clear hfull h1;go_enter Tryz.func144,Tryz.ntmps144;go_wp2_with fail;refine Calls.mono HN.out ?_;rintro e w1 ⟨rfl,hb1⟩;have hD1:=HD.out.below hb1;obtain⟨c3,_⟩:=hD1.dr.box 3 _ rfl;obtain⟨c7,_⟩:=hD1.dr.box 7 _ rfl;clear hD1 HD HN;go_wp2;exact⟨rfl,rfl,hb1⟩
 ·have hll:((ls.length:Int)==200)=false:=by simp;omega
  have hgg:(given==1000000000)=true:=by
   rcases hfull with h|h
   ·exact absurd h h1
   ·rw[h];rfl
  clear hfull h1;go_enter Tryz.func144,Tryz.ntmps144;go_wp2_with fail;refine Calls.mono HN.out ?_;rintro e w1 ⟨rfl,hb1⟩;have hD1:=HD.out.below hb1;obtain⟨c3,_⟩:=hD1.dr.box 3 _ rfl;obtain⟨c7,_⟩:=hD1.dr.box 7 _ rfl;clear hD1 HD HN;go_wp2;exact⟨rfl,rfl,hb1⟩
set_option maxHeartbeats 1000000 in
theorem wait_full (base d m:Nat) (O P L:Value) (wd now given births:Int) (ks:List Kd) (ps:List Pd) (ls:List Ld) (ticks:Int) (w:World) (h:DU w base d m O P L wd now given births ks ps ls) (hn0:0<=now) (hn1:now<=1000000000) (ht0:0<=ticks) (ht1:ticks<=1000000000) (hs:1000000000<now+ticks):
 Calls Tryz.prog 148 #[.pointer (some ⟨d,0,none⟩),.int .i64 ticks] w fun e w'=>e=.panicked [{v:=refV 4 ⟨#[]⟩ ⟨#[]⟩,recovered:=false}]/\Below w.heap.size w w':=by
 obtain⟨W,hW⟩:∃W,W=w.alloc (.cells #[.pointer (some ⟨d,0,none⟩)] 86):=⟨_,rfl⟩;have bW:Below w.heap.size w W:=by rw[hW];exact(Below.refl _ _).alloc (Nat.le_refl _) _
 have zW:CellsAt W w.heap.size [.pointer (some ⟨d,0,none⟩)]:=by rw[hW];exact CellsAt.new w _ _
 have hD:=h.below bW;have HW:Hid _:=hW;have hwr:IntKind.i64.wrap (now+ticks)=now+ticks:=wrap_sum hn0 hn1 ht0 ht1;obtain⟨z0,_⟩:=zW 0 _ rfl;obtain⟨c2,_⟩:=hD.dr.box 2 _ rfl;clear h hD hW zW;go_enter Tryz.func148,Tryz.ntmps148;go_upto_region 1 with fail;rw[←HW.out];clear HW;go_wp2;exact⟨rfl,rfl,bW⟩
set_option maxHeartbeats 1000000 in
theorem searchLease_nil (a:Option Addr) (cap:Nat) (n:Int) (w:World):
 Calls Tryz.prog 174 #[.slice a 0 cap,.int .i64 n,.func (.func 175) #[] #[]] w fun e w'=>e=.returned (.tuple #[.int .i64 0,.bool false])/\Below w.heap.size w w':=by
 go_enter Tryz.func174,Tryz.ntmps174;go_wp2
 go_loopw [9,10] (fun i j wr=>i=.int .i64 0/\j=.int .i64 0/\wr=w) (fun _ _ _=>0)
 case atStart=>exact⟨rfl,rfl,rfl⟩
 case round=>
  obtain⟨rfl,rfl,rfl⟩:=hrel;go_wp2
  go_ret2
  exact⟨by first|rfl|simp[Act.put],Below.refl _ _⟩
set_option maxHeartbeats 1000000 in
theorem searchPin_nil (a:Option Addr) (cap:Nat) (n:ByteArray) (w:World):
 Calls Tryz.prog 199 #[.slice a 0 cap,.string n,.func (.func 200) #[] #[]] w fun e w'=>e=.returned (.tuple #[.int .i64 0,.bool false])/\Below w.heap.size w w':=by
 go_enter Tryz.func199,Tryz.ntmps199;go_wp2
 go_loopw [9,10] (fun i j wr=>i=.int .i64 0/\j=.int .i64 0/\wr=w) (fun _ _ _=>0)
 case atStart=>exact⟨rfl,rfl,rfl⟩
 case round=>
  obtain⟨rfl,rfl,rfl⟩:=hrel;go_wp2
  go_ret2
  exact⟨by first|rfl|simp[Act.put],Below.refl _ _⟩
theorem searchL (base:Nat) (L:Value) (ls:List Ld) (n:Int) (w:World) (ho:w.ownsRow base 131 3 L ls.length (rowC lC ls)) (hl:ls.length<=600) (hsort:ls.Pairwise (fun a b=>a.num<b.num)):
 Calls Tryz.prog 174 #[L,.int .i64 n,.func (.func 175) #[] #[]] w fun e w'=>∃i:Nat,e=.returned (.tuple #[.int .i64 i,.bool (decide (∃x,ls[i]?=some x/\x.num=n))])/\PlaceN ls n i/\Below w.heap.size w w':=by
 rcases ho.2 with⟨rfl,hz⟩|⟨g,cap,cur,rfl,_⟩
 ·have:ls=[]:=List.eq_nil_of_length_eq_zero hz
  subst this;refine(searchLease_nil none 0 n w).mono ?_;rintro e w' ⟨rfl,hb⟩;exact⟨0,by simp,⟨Nat.le_refl _,fun j x h=>by omega,fun j x _ hx=>by simp at hx⟩,hb⟩
 ·exact searchLease_any g cap ls n w base ho hl hsort
theorem searchP (base:Nat) (P:Value) (ps:List Pd) (n:ByteArray) (w:World) (ho:w.ownsRow base 130 2 P ps.length (rowC pC ps)) (hl:ps.length<=600) (hsort:ps.Pairwise (fun a b=>less a.name b.name=true)):
 Calls Tryz.prog 199 #[P,.string n,.func (.func 200) #[] #[]] w fun e w'=>∃i:Nat,e=.returned (.tuple #[.int .i64 i,.bool (decide (∃x,ps[i]?=some x/\x.name=n))])/\PlaceP ps n i/\Below w.heap.size w w':=by
 rcases ho.2 with⟨rfl,hz⟩|⟨g,cap,cur,rfl,_⟩
 ·have:ps=[]:=List.eq_nil_of_length_eq_zero hz
  subst this;refine(searchPin_nil none 0 n w).mono ?_;rintro e w' ⟨rfl,hb⟩;exact⟨0,by simp,⟨Nat.le_refl _,fun j x h=>by omega,fun j x _ hx=>by simp at hx⟩,hb⟩
 ·exact searchPin_any g cap ps n w base ho hl hsort
set_option maxHeartbeats 1000000 in
theorem give_no (base d m:Nat) (O P L:Value) (wd now given births:Int) (ks:List Kd) (ps:List Pd) (ls:List Ld) (n:Int) (w:World) (h:DU w base d m O P L wd now given births ks ps ls) (hl:ls.length<=200) (hsort:ls.Pairwise (fun a b=>a.num<b.num)) (hth:¬∃x∈ls,x.num=n):
 Calls Tryz.prog 147 #[.pointer (some ⟨d,0,none⟩),.int .i64 n] w fun e w'=>e=.panicked [{v:=refV 5 ⟨#[]⟩ ⟨#[]⟩,recovered:=false}]/\Below w.heap.size w w':=by
 have HS:Hid _:=searchL base L ls n w h.dr.lea (by omega) hsort;obtain⟨la,lcp,hLe⟩:=own_val h.dr.lea;subst hLe;have HTh:Hid (¬∃x∈ls,x.num=n):=hth;obtain⟨c7,_⟩:=h.dr.box 7 _ rfl;clear h hsort hth;go_enter Tryz.func147,Tryz.ntmps147;go_wp2_with fail;refine Calls.mono HS.out ?_;rintro e w1 ⟨i,rfl,_,hb1⟩;have hdec:decide (∃x,ls[i]?=some x/\x.num=n)=false:=by
  rw[decide_eq_false_iff_not];rintro⟨x,hx,hn⟩;exact HTh.out ⟨x,List.mem_of_getElem? hx,hn⟩
 rw[hdec];clear hdec HS HTh c7;go_wp2;exact⟨rfl,rfl,hb1⟩
set_option maxHeartbeats 1000000 in
theorem pinPlaceV (base d m:Nat) (O P L:Value) (wd now given births:Int) (ks:List Kd) (ps:List Pd) (ls:List Ld) (n:ByteArray) (w:World) (h:DU w base d m O P L wd now given births ks ps ls) (hl:ps.length<=200) (hsort:ps.Pairwise (fun a b=>less a.name b.name=true)):
 Calls Tryz.prog 171 #[.pointer (some ⟨d,0,none⟩),.string n] w fun e w'=>∃i:Nat,e=.returned (.tuple #[.int .i64 i,.bool (decide (∃x,ps[i]?=some x/\x.name=n))])/\PlaceP ps n i/\Below w.heap.size w w':=by
 have HS:Hid _:=searchP base P ps n w h.dr.pin (by omega) hsort;obtain⟨la,lcp,hLe⟩:=own_val h.dr.pin;subst hLe;obtain⟨c6,_⟩:=h.dr.box 6 _ rfl;clear h hsort;go_enter Tryz.func171,Tryz.ntmps171;go_wp2_with fail;refine Calls.mono HS.out ?_;rintro e w1 ⟨i,rfl,hp1,hb1⟩;obtain⟨bb,hbb⟩:∃bb,decide (∃x,ps[i]?=some x/\x.name=n)=bb:=⟨_,rfl⟩;have HBB:Hid (decide (∃x,ps[i]?=some x/\x.name=n)=bb):=hbb;rw[hbb]
 clear hbb;go_wp2
 go_ret2
 exact⟨i,by rw[HBB.out];rfl,hp1,hb1⟩
set_option maxHeartbeats 1000000 in
theorem unpin_no (base d m:Nat) (O P L:Value) (wd now given births:Int) (ks:List Kd) (ps:List Pd) (ls:List Ld) (n:ByteArray) (w:World) (h:DU w base d m O P L wd now given births ks ps ls) (hl:ps.length<=200) (hsort:ps.Pairwise (fun a b=>less a.name b.name=true)) (hth:¬∃x∈ps,x.name=n):
 Calls Tryz.prog 146 #[.pointer (some ⟨d,0,none⟩),.string n] w fun e w'=>e=.panicked [{v:=refV 5 ⟨#[]⟩ ⟨#[]⟩,recovered:=false}]/\Below w.heap.size w w':=by
 have HS:Hid _:=pinPlaceV base d m O P L wd now given births ks ps ls n w h hl hsort;have HTh:Hid (¬∃x∈ps,x.name=n):=hth;clear h hsort hth;go_enter Tryz.func146,Tryz.ntmps146;go_wp2_with fail;refine Calls.mono HS.out ?_;rintro e w1 ⟨i,rfl,_,hb1⟩;have hdec:decide (∃x,ps[i]?=some x/\x.name=n)=false:=by
  rw[decide_eq_false_iff_not];rintro⟨x,hx,hn⟩;exact HTh.out ⟨x,List.mem_of_getElem? hx,hn⟩
 rw[hdec];clear hdec HS HTh;go_wp2;exact⟨rfl,rfl,hb1⟩
end Go.Proofs.YthkmpihfhkmaoaaGreatDoor
namespace Go.Proofs.YthkmpihfhkmaoaaGreatDoor
open Go.ChangeShapes Go.WideShapes Go.ChangeAt Go.RowKit
theorem own_type {w:World} {base:Nat} {e:TypeId} {size:Nat} {v:Value} {n:Nat} {xs:List Value} (h:w.ownsRow base e size v n xs) {g:Nat} (hg:v.ownBlock=some g):∃cur,w.heap[g]?=some (.cells cur e):=by
 rcases h.2 with⟨rfl,_⟩|⟨g',cap,cur,rfl,_,hc,_⟩
 ·cases hg
 ·cases hg
  exact⟨cur,hc⟩
theorem DU.notin {w:World} {base d m:Nat} {O P L:Value} {wd now given births:Int} {ks:List Kd} {ps:List Pd} {ls:List Ld} (h:DU w base d m O P L wd now given births ks ps ls) {R:Nat} {cur:Array Value} (hR:w.heap[R]?=some (.cells cur 40)) (hd:R≠d):R∉vB d m O P L:=by
 intro hv;unfold vB at hv;simp only[List.mem_cons,List.mem_append,Option.mem_toList] at hv;rcases hv with hv|hv|hv|hv|hv
 ·exact hd hv
 ·obtain⟨n,f,_,hM,_⟩:=h.dr.map
  obtain⟨D,⟨es,clock,hes,_⟩,_⟩:=hM;rw[←hv,hR] at hes;cases hes
 ·obtain⟨c,hc⟩:=own_type h.dr.ord hv
  rw[hR] at hc;cases hc
 ·obtain⟨c,hc⟩:=own_type h.dr.pin hv
  rw[hR] at hc;cases hc
 ·obtain⟨c,hc⟩:=own_type h.dr.lea hv
  rw[hR] at hc;cases hc
set_option maxRecDepth 20000 in
set_option maxHeartbeats 4000000 in
theorem changeGive_yes (base d m:Nat) (O P L:Value) (wd now given births:Int) (ks:List Kd) (ps:List Pd) (ls:List Ld) (s nm tx:ByteArray) (num:Int) (ra:Option Addr) (rn rc:Nat) (w:World) (h:DU w base d m O P L wd now given births ks ps ls) (hl:ls.length<=200) (hsort:ls.Pairwise (fun a b=>a.num<b.num)) (hth:∃x∈ls,x.num=num):
 Calls Tryz.prog 112 #[.pointer (some ⟨d,0,none⟩),.agg #[.int .i64 5,.string s,.string nm,.int .i64 num,.string tx,.slice ra rn rc]] w fun e w'=>e=.returned (.agg z12.toArray)/\∃L',DU w' base d m O P L' wd now given births ks ps (giveL ls num)/\Tn (d::L.ownBlock.toList) w w':=by
 obtain⟨W,hW⟩:∃W,W=((w.alloc (.cells #[.int .i64 5,.string s,.string nm,.int .i64 num,.string tx,.slice ra rn rc] 45)).alloc (.cells #[.int .i64 0,.int .i64 0,.int .i64 0,.int .i64 0,.int .i64 0,.slice none 0 0,.slice none 0 0,.slice none 0 0,.string ⟨#[]⟩,.int .i64 0,.string ⟨#[]⟩,.string ⟨#[]⟩] 40)).alloc (.cells #[.int .i64 0,.int .i64 0,.int .i64 0,.int .i64 0,.int .i64 0,.slice none 0 0,.slice none 0 0,.slice none 0 0,.string ⟨#[]⟩,.int .i64 0,.string ⟨#[]⟩,.string ⟨#[]⟩] 40):=⟨_,rfl⟩
 have hB:Below w.heap.size w W:=by rw[hW];exact(((Below.refl _ _).alloc (Nat.le_refl _) _).alloc (by simp) _).alloc (by simp;omega) _
 have hzW:W.heap.size=w.heap.size+3:=by rw[hW];simp
 have xE:CellsAt W w.heap.size [.int .i64 5,.string s,.string nm,.int .i64 num,.string tx,.slice ra rn rc]:=by
  have h1:=CellsAt.new w [.int .i64 5,.string s,.string nm,.int .i64 num,.string tx,.slice ra rn rc] 45;rw[hW];exact CellsAt.below (CellsAt.below h1 ((Below.refl _ _).alloc (Nat.le_refl _) _)) ((Below.refl _ _).alloc (Nat.le_refl _) _)
 have zR:CellsAt W (w.heap.size+1) z12:=by
  have h1:=CellsAt.new (w.alloc (.cells #[.int .i64 5,.string s,.string nm,.int .i64 num,.string tx,.slice ra rn rc] 45)) z12 40;rw[World.size_alloc] at h1;rw[hW];exact CellsAt.below (v:=.int .i64 0) h1 ((Below.refl _ _).alloc (Nat.le_refl _) _)
 have zO:CellsAt W (w.heap.size+2) z12:=by
  have h1:=CellsAt.new ((w.alloc (.cells #[.int .i64 5,.string s,.string nm,.int .i64 num,.string tx,.slice ra rn rc] 45)).alloc (.cells #[.int .i64 0,.int .i64 0,.int .i64 0,.int .i64 0,.int .i64 0,.slice none 0 0,.slice none 0 0,.slice none 0 0,.string ⟨#[]⟩,.int .i64 0,.string ⟨#[]⟩,.string ⟨#[]⟩] 40)) z12 40;rw[World.size_alloc,World.size_alloc] at h1;rw[hW];exact h1
 have hRb:W.heap[w.heap.size+1]?=some (.cells #[.int .i64 0,.int .i64 0,.int .i64 0,.int .i64 0,.int .i64 0,.slice none 0 0,.slice none 0 0,.slice none 0 0,.string ⟨#[]⟩,.int .i64 0,.string ⟨#[]⟩,.string ⟨#[]⟩] 40):=by
  rw[hW,Below.heap_alloc _ _ _ (by simp)];have:=heap_alloc_new (w.alloc (.cells #[.int .i64 5,.string s,.string nm,.int .i64 num,.string tx,.slice ra rn rc] 45)) (.cells #[.int .i64 0,.int .i64 0,.int .i64 0,.int .i64 0,.int .i64 0,.slice none 0 0,.slice none 0 0,.slice none 0 0,.string ⟨#[]⟩,.int .i64 0,.string ⟨#[]⟩,.string ⟨#[]⟩] 40);rw[World.size_alloc] at this;exact this
 have hD:=h.below hB;have hdl:=h.dr.box.lt;have hlt:∀b∈d::L.ownBlock.toList,b<w.heap.size:=fun b hb=>h.dr.lts b (by unfold vB;simp at hb ⊢;rcases hb with rfl|hb<;>simp[*]);have HC:Hid _:=give_yes base d m O P L wd now given births ks ps ls num W hD hl hsort hth;have HW:Hid _:=hW
 have HZ:Hid (CellsAt W (w.heap.size+1) z12/\CellsAt W (w.heap.size+2) z12/\W.heap[w.heap.size+1]?=some (.cells #[.int .i64 0,.int .i64 0,.int .i64 0,.int .i64 0,.int .i64 0,.slice none 0 0,.slice none 0 0,.slice none 0 0,.string ⟨#[]⟩,.int .i64 0,.string ⟨#[]⟩,.string ⟨#[]⟩] 40)/\Below w.heap.size w W/\W.heap.size=w.heap.size+3/\base<=w.heap.size):=⟨zR,zO,hRb,hB,hzW,h.lo⟩
 have HLt:Hid (∀b∈d::L.ownBlock.toList,b<w.heap.size):=hlt;obtain⟨e0,_⟩:=xE 0 _ rfl;obtain⟨e1,_⟩:=xE 1 _ rfl;obtain⟨e2,_⟩:=xE 2 _ rfl;obtain⟨e3,_⟩:=xE 3 _ rfl;clear hW h hD zR zO hRb hB hzW xE hlt;go_enter Tryz.func112,Tryz.ntmps112;go_upto_region 2 with fail;rw[←HW.out];clear HW;go_wp2_with fail;refine Calls.mono HC.out ?_;rintro e w1 ⟨rfl,V,hd1,ht1⟩;have zz:=HZ.out.2.2.2.2.1
 have zR1:CellsAt w1 (w.heap.size+1) z12:=CellsAt.same HZ.out.1 (ht1.block _ (by omega) (fun h=>by have:=HLt.out _ h;omega));have zO1:CellsAt w1 (w.heap.size+2) z12:=CellsAt.same HZ.out.2.1 (ht1.block _ (by omega) (fun h=>by have:=HLt.out _ h;omega))
 have hR1:w1.heap[w.heap.size+1]?=some (.cells #[.int .i64 0,.int .i64 0,.int .i64 0,.int .i64 0,.int .i64 0,.slice none 0 0,.slice none 0 0,.slice none 0 0,.string ⟨#[]⟩,.int .i64 0,.string ⟨#[]⟩,.string ⟨#[]⟩] 40):=(ht1.block _ (by omega) (fun h=>by have:=HLt.out _ h;omega)).trans HZ.out.2.2.1;have HD1:Hid _:=And.intro hd1 (And.intro ht1 (hd1.notin hR1 (by omega)))
 obtain⟨⟨y0,q0⟩,⟨y1,q1⟩,⟨y2,q2⟩,⟨y3,q3⟩,⟨y4,q4⟩,⟨y5,q5⟩,⟨y6,q6⟩,⟨y7,q7⟩,⟨y8,q8⟩,⟨y9,q9⟩,⟨y10,q10⟩,y11,q11⟩:=z12at zR1;obtain⟨⟨v0,_⟩,⟨v1,_⟩,⟨v2,_⟩,⟨v3,_⟩,⟨v4,_⟩,⟨v5,_⟩,⟨v6,_⟩,⟨v7,_⟩,⟨v8,_⟩,⟨v9,_⟩,⟨v10,_⟩,v11,_⟩:=z12at zO1;clear hd1 ht1 zR1 zO1 hR1 e0 e1 e2 e3 HC zz;go_wp2
 refine bodyPost_ret (v:=.agg z12.toArray) (by simp[results,Tryz.results112,go_sem,y0,y1,y2,y3,y4,y5,y6,y7,y8,y9,y10,y11,z12]) rfl ⟨rfl,V,HD1.out.1.turn (tn12 w1 (w.heap.size+1) _ _ _ _ _ _ _ _ _ _ _ _) (by intro b hb;simp at hb;subst hb;exact⟨by have:=HZ.out.2.2.2.2.2;omega,HD1.out.2.2⟩),Tn.fresh ((Tn.of HZ.out.2.2.2.1).trans HD1.out.2.1) (tn12 w1 (w.heap.size+1) _ _ _ _ _ _ _ _ _ _ _ _) (by omega)⟩
set_option maxRecDepth 20000 in
set_option maxHeartbeats 4000000 in
theorem changeWait_yes (base d m:Nat) (O P L:Value) (wd now given births:Int) (ks:List Kd) (ps:List Pd) (ls:List Ld) (s nm tx:ByteArray) (num:Int) (ra:Option Addr) (rn rc:Nat) (w:World) (h:DU w base d m O P L wd now given births ks ps ls) (hl:ls.length<=200) (hn0:0<=now) (ht0:0<=num) (hs:now+num<=1000000000):
 Calls Tryz.prog 112 #[.pointer (some ⟨d,0,none⟩),.agg #[.int .i64 6,.string s,.string nm,.int .i64 num,.string tx,.slice ra rn rc]] w fun e w'=>e=.returned (.agg z12.toArray)/\∃L',DU w' base d m O P L' wd (now+num) given births ks ps (waitL ls (now+num))/\Tn (d::L.ownBlock.toList) w w':=by
 obtain⟨W,hW⟩:∃W,W=((w.alloc (.cells #[.int .i64 6,.string s,.string nm,.int .i64 num,.string tx,.slice ra rn rc] 45)).alloc (.cells #[.int .i64 0,.int .i64 0,.int .i64 0,.int .i64 0,.int .i64 0,.slice none 0 0,.slice none 0 0,.slice none 0 0,.string ⟨#[]⟩,.int .i64 0,.string ⟨#[]⟩,.string ⟨#[]⟩] 40)).alloc (.cells #[.int .i64 0,.int .i64 0,.int .i64 0,.int .i64 0,.int .i64 0,.slice none 0 0,.slice none 0 0,.slice none 0 0,.string ⟨#[]⟩,.int .i64 0,.string ⟨#[]⟩,.string ⟨#[]⟩] 40):=⟨_,rfl⟩
 have hB:Below w.heap.size w W:=by rw[hW];exact(((Below.refl _ _).alloc (Nat.le_refl _) _).alloc (by simp) _).alloc (by simp;omega) _
 have hzW:W.heap.size=w.heap.size+3:=by rw[hW];simp
 have xE:CellsAt W w.heap.size [.int .i64 6,.string s,.string nm,.int .i64 num,.string tx,.slice ra rn rc]:=by
  have h1:=CellsAt.new w [.int .i64 6,.string s,.string nm,.int .i64 num,.string tx,.slice ra rn rc] 45;rw[hW];exact CellsAt.below (CellsAt.below h1 ((Below.refl _ _).alloc (Nat.le_refl _) _)) ((Below.refl _ _).alloc (Nat.le_refl _) _)
 have zR:CellsAt W (w.heap.size+1) z12:=by
  have h1:=CellsAt.new (w.alloc (.cells #[.int .i64 6,.string s,.string nm,.int .i64 num,.string tx,.slice ra rn rc] 45)) z12 40;rw[World.size_alloc] at h1;rw[hW];exact CellsAt.below (v:=.int .i64 0) h1 ((Below.refl _ _).alloc (Nat.le_refl _) _)
 have zO:CellsAt W (w.heap.size+2) z12:=by
  have h1:=CellsAt.new ((w.alloc (.cells #[.int .i64 6,.string s,.string nm,.int .i64 num,.string tx,.slice ra rn rc] 45)).alloc (.cells #[.int .i64 0,.int .i64 0,.int .i64 0,.int .i64 0,.int .i64 0,.slice none 0 0,.slice none 0 0,.slice none 0 0,.string ⟨#[]⟩,.int .i64 0,.string ⟨#[]⟩,.string ⟨#[]⟩] 40)) z12 40;rw[World.size_alloc,World.size_alloc] at h1;rw[hW];exact h1
 have hRb:W.heap[w.heap.size+1]?=some (.cells #[.int .i64 0,.int .i64 0,.int .i64 0,.int .i64 0,.int .i64 0,.slice none 0 0,.slice none 0 0,.slice none 0 0,.string ⟨#[]⟩,.int .i64 0,.string ⟨#[]⟩,.string ⟨#[]⟩] 40):=by
  rw[hW,Below.heap_alloc _ _ _ (by simp)];have:=heap_alloc_new (w.alloc (.cells #[.int .i64 6,.string s,.string nm,.int .i64 num,.string tx,.slice ra rn rc] 45)) (.cells #[.int .i64 0,.int .i64 0,.int .i64 0,.int .i64 0,.int .i64 0,.slice none 0 0,.slice none 0 0,.slice none 0 0,.string ⟨#[]⟩,.int .i64 0,.string ⟨#[]⟩,.string ⟨#[]⟩] 40);rw[World.size_alloc] at this;exact this
 have hD:=h.below hB;have hdl:=h.dr.box.lt;have hlt:∀b∈d::L.ownBlock.toList,b<w.heap.size:=fun b hb=>h.dr.lts b (by unfold vB;simp at hb ⊢;rcases hb with rfl|hb<;>simp[*]);have HC:Hid _:=wait_yes base d m O P L wd now given births ks ps ls num W hD hl hn0 ht0 hs;have HW:Hid _:=hW
 have HZ:Hid (CellsAt W (w.heap.size+1) z12/\CellsAt W (w.heap.size+2) z12/\W.heap[w.heap.size+1]?=some (.cells #[.int .i64 0,.int .i64 0,.int .i64 0,.int .i64 0,.int .i64 0,.slice none 0 0,.slice none 0 0,.slice none 0 0,.string ⟨#[]⟩,.int .i64 0,.string ⟨#[]⟩,.string ⟨#[]⟩] 40)/\Below w.heap.size w W/\W.heap.size=w.heap.size+3/\base<=w.heap.size):=⟨zR,zO,hRb,hB,hzW,h.lo⟩
 have HLt:Hid (∀b∈d::L.ownBlock.toList,b<w.heap.size):=hlt;obtain⟨e0,_⟩:=xE 0 _ rfl;obtain⟨e1,_⟩:=xE 1 _ rfl;obtain⟨e2,_⟩:=xE 2 _ rfl;obtain⟨e3,_⟩:=xE 3 _ rfl;clear hW h hD zR zO hRb hB hzW xE hlt;go_enter Tryz.func112,Tryz.ntmps112;go_upto_region 2 with fail;rw[←HW.out];clear HW;go_wp2_with fail;refine Calls.mono HC.out ?_;rintro e w1 ⟨rfl,V,hd1,ht1⟩;have zz:=HZ.out.2.2.2.2.1
 have zR1:CellsAt w1 (w.heap.size+1) z12:=CellsAt.same HZ.out.1 (ht1.block _ (by omega) (fun h=>by have:=HLt.out _ h;omega));have zO1:CellsAt w1 (w.heap.size+2) z12:=CellsAt.same HZ.out.2.1 (ht1.block _ (by omega) (fun h=>by have:=HLt.out _ h;omega))
 have hR1:w1.heap[w.heap.size+1]?=some (.cells #[.int .i64 0,.int .i64 0,.int .i64 0,.int .i64 0,.int .i64 0,.slice none 0 0,.slice none 0 0,.slice none 0 0,.string ⟨#[]⟩,.int .i64 0,.string ⟨#[]⟩,.string ⟨#[]⟩] 40):=(ht1.block _ (by omega) (fun h=>by have:=HLt.out _ h;omega)).trans HZ.out.2.2.1;have HD1:Hid _:=And.intro hd1 (And.intro ht1 (hd1.notin hR1 (by omega)))
 obtain⟨⟨y0,q0⟩,⟨y1,q1⟩,⟨y2,q2⟩,⟨y3,q3⟩,⟨y4,q4⟩,⟨y5,q5⟩,⟨y6,q6⟩,⟨y7,q7⟩,⟨y8,q8⟩,⟨y9,q9⟩,⟨y10,q10⟩,y11,q11⟩:=z12at zR1;obtain⟨⟨v0,_⟩,⟨v1,_⟩,⟨v2,_⟩,⟨v3,_⟩,⟨v4,_⟩,⟨v5,_⟩,⟨v6,_⟩,⟨v7,_⟩,⟨v8,_⟩,⟨v9,_⟩,⟨v10,_⟩,v11,_⟩:=z12at zO1;clear hd1 ht1 zR1 zO1 hR1 e0 e1 e2 e3 HC zz;go_wp2
 refine bodyPost_ret (v:=.agg z12.toArray) (by simp[results,Tryz.results112,go_sem,y0,y1,y2,y3,y4,y5,y6,y7,y8,y9,y10,y11,z12]) rfl ⟨rfl,V,HD1.out.1.turn (tn12 w1 (w.heap.size+1) _ _ _ _ _ _ _ _ _ _ _ _) (by intro b hb;simp at hb;subst hb;exact⟨by have:=HZ.out.2.2.2.2.2;omega,HD1.out.2.2⟩),Tn.fresh ((Tn.of HZ.out.2.2.2.1).trans HD1.out.2.1) (tn12 w1 (w.heap.size+1) _ _ _ _ _ _ _ _ _ _ _ _) (by omega)⟩
set_option maxRecDepth 20000 in
set_option maxHeartbeats 4000000 in
theorem changeUnpin_yes (base d m:Nat) (O P L:Value) (wd now given births:Int) (ks:List Kd) (ps:List Pd) (ls:List Ld) (s nm tx:ByteArray) (num:Int) (ra:Option Addr) (rn rc:Nat) (w:World) (h:DU w base d m O P L wd now given births ks ps ls) (hl:ps.length<=200) (hsort:ps.Pairwise (fun a b=>less a.name b.name=true)) (hth:∃x∈ps,x.name=nm):
 Calls Tryz.prog 112 #[.pointer (some ⟨d,0,none⟩),.agg #[.int .i64 3,.string s,.string nm,.int .i64 num,.string tx,.slice ra rn rc]] w fun e w'=>e=.returned (.agg z12.toArray)/\∃P',DU w' base d m O P' L wd now given births ks (unpinP ps nm) ls/\Tn (d::P.ownBlock.toList) w w':=by
 obtain⟨W,hW⟩:∃W,W=((w.alloc (.cells #[.int .i64 3,.string s,.string nm,.int .i64 num,.string tx,.slice ra rn rc] 45)).alloc (.cells #[.int .i64 0,.int .i64 0,.int .i64 0,.int .i64 0,.int .i64 0,.slice none 0 0,.slice none 0 0,.slice none 0 0,.string ⟨#[]⟩,.int .i64 0,.string ⟨#[]⟩,.string ⟨#[]⟩] 40)).alloc (.cells #[.int .i64 0,.int .i64 0,.int .i64 0,.int .i64 0,.int .i64 0,.slice none 0 0,.slice none 0 0,.slice none 0 0,.string ⟨#[]⟩,.int .i64 0,.string ⟨#[]⟩,.string ⟨#[]⟩] 40):=⟨_,rfl⟩
 have hB:Below w.heap.size w W:=by rw[hW];exact(((Below.refl _ _).alloc (Nat.le_refl _) _).alloc (by simp) _).alloc (by simp;omega) _
 have hzW:W.heap.size=w.heap.size+3:=by rw[hW];simp
 have xE:CellsAt W w.heap.size [.int .i64 3,.string s,.string nm,.int .i64 num,.string tx,.slice ra rn rc]:=by
  have h1:=CellsAt.new w [.int .i64 3,.string s,.string nm,.int .i64 num,.string tx,.slice ra rn rc] 45;rw[hW];exact CellsAt.below (CellsAt.below h1 ((Below.refl _ _).alloc (Nat.le_refl _) _)) ((Below.refl _ _).alloc (Nat.le_refl _) _)
 have zR:CellsAt W (w.heap.size+1) z12:=by
  have h1:=CellsAt.new (w.alloc (.cells #[.int .i64 3,.string s,.string nm,.int .i64 num,.string tx,.slice ra rn rc] 45)) z12 40;rw[World.size_alloc] at h1;rw[hW];exact CellsAt.below (v:=.int .i64 0) h1 ((Below.refl _ _).alloc (Nat.le_refl _) _)
 have zO:CellsAt W (w.heap.size+2) z12:=by
  have h1:=CellsAt.new ((w.alloc (.cells #[.int .i64 3,.string s,.string nm,.int .i64 num,.string tx,.slice ra rn rc] 45)).alloc (.cells #[.int .i64 0,.int .i64 0,.int .i64 0,.int .i64 0,.int .i64 0,.slice none 0 0,.slice none 0 0,.slice none 0 0,.string ⟨#[]⟩,.int .i64 0,.string ⟨#[]⟩,.string ⟨#[]⟩] 40)) z12 40;rw[World.size_alloc,World.size_alloc] at h1;rw[hW];exact h1
 have hRb:W.heap[w.heap.size+1]?=some (.cells #[.int .i64 0,.int .i64 0,.int .i64 0,.int .i64 0,.int .i64 0,.slice none 0 0,.slice none 0 0,.slice none 0 0,.string ⟨#[]⟩,.int .i64 0,.string ⟨#[]⟩,.string ⟨#[]⟩] 40):=by
  rw[hW,Below.heap_alloc _ _ _ (by simp)];have:=heap_alloc_new (w.alloc (.cells #[.int .i64 3,.string s,.string nm,.int .i64 num,.string tx,.slice ra rn rc] 45)) (.cells #[.int .i64 0,.int .i64 0,.int .i64 0,.int .i64 0,.int .i64 0,.slice none 0 0,.slice none 0 0,.slice none 0 0,.string ⟨#[]⟩,.int .i64 0,.string ⟨#[]⟩,.string ⟨#[]⟩] 40);rw[World.size_alloc] at this;exact this
 have hD:=h.below hB;have hdl:=h.dr.box.lt;have hlt:∀b∈d::P.ownBlock.toList,b<w.heap.size:=fun b hb=>h.dr.lts b (by unfold vB;simp at hb ⊢;rcases hb with rfl|hb<;>simp[*]);have HC:Hid _:=unpin_yes base d m O P L wd now given births ks ps ls nm W hD hl hsort hth;have HW:Hid _:=hW
 have HZ:Hid (CellsAt W (w.heap.size+1) z12/\CellsAt W (w.heap.size+2) z12/\W.heap[w.heap.size+1]?=some (.cells #[.int .i64 0,.int .i64 0,.int .i64 0,.int .i64 0,.int .i64 0,.slice none 0 0,.slice none 0 0,.slice none 0 0,.string ⟨#[]⟩,.int .i64 0,.string ⟨#[]⟩,.string ⟨#[]⟩] 40)/\Below w.heap.size w W/\W.heap.size=w.heap.size+3/\base<=w.heap.size):=⟨zR,zO,hRb,hB,hzW,h.lo⟩
 have HLt:Hid (∀b∈d::P.ownBlock.toList,b<w.heap.size):=hlt;obtain⟨e0,_⟩:=xE 0 _ rfl;obtain⟨e1,_⟩:=xE 1 _ rfl;obtain⟨e2,_⟩:=xE 2 _ rfl;obtain⟨e3,_⟩:=xE 3 _ rfl;clear hW h hD zR zO hRb hB hzW xE hlt;go_enter Tryz.func112,Tryz.ntmps112;go_upto_region 2 with fail;rw[←HW.out];clear HW;go_wp2_with fail;refine Calls.mono HC.out ?_;rintro e w1 ⟨rfl,V,hd1,ht1⟩;have zz:=HZ.out.2.2.2.2.1
 have zR1:CellsAt w1 (w.heap.size+1) z12:=CellsAt.same HZ.out.1 (ht1.block _ (by omega) (fun h=>by have:=HLt.out _ h;omega));have zO1:CellsAt w1 (w.heap.size+2) z12:=CellsAt.same HZ.out.2.1 (ht1.block _ (by omega) (fun h=>by have:=HLt.out _ h;omega))
 have hR1:w1.heap[w.heap.size+1]?=some (.cells #[.int .i64 0,.int .i64 0,.int .i64 0,.int .i64 0,.int .i64 0,.slice none 0 0,.slice none 0 0,.slice none 0 0,.string ⟨#[]⟩,.int .i64 0,.string ⟨#[]⟩,.string ⟨#[]⟩] 40):=(ht1.block _ (by omega) (fun h=>by have:=HLt.out _ h;omega)).trans HZ.out.2.2.1;have HD1:Hid _:=And.intro hd1 (And.intro ht1 (hd1.notin hR1 (by omega)))
 obtain⟨⟨y0,q0⟩,⟨y1,q1⟩,⟨y2,q2⟩,⟨y3,q3⟩,⟨y4,q4⟩,⟨y5,q5⟩,⟨y6,q6⟩,⟨y7,q7⟩,⟨y8,q8⟩,⟨y9,q9⟩,⟨y10,q10⟩,y11,q11⟩:=z12at zR1;obtain⟨⟨v0,_⟩,⟨v1,_⟩,⟨v2,_⟩,⟨v3,_⟩,⟨v4,_⟩,⟨v5,_⟩,⟨v6,_⟩,⟨v7,_⟩,⟨v8,_⟩,⟨v9,_⟩,⟨v10,_⟩,v11,_⟩:=z12at zO1;clear hd1 ht1 zR1 zO1 hR1 e0 e1 e2 e3 HC zz;go_wp2
 refine bodyPost_ret (v:=.agg z12.toArray) (by simp[results,Tryz.results112,go_sem,y0,y1,y2,y3,y4,y5,y6,y7,y8,y9,y10,y11,z12]) rfl ⟨rfl,V,HD1.out.1.turn (tn12 w1 (w.heap.size+1) _ _ _ _ _ _ _ _ _ _ _ _) (by intro b hb;simp at hb;subst hb;exact⟨by have:=HZ.out.2.2.2.2.2;omega,HD1.out.2.2⟩),Tn.fresh ((Tn.of HZ.out.2.2.2.1).trans HD1.out.2.1) (tn12 w1 (w.heap.size+1) _ _ _ _ _ _ _ _ _ _ _ _) (by omega)⟩
end Go.Proofs.YthkmpihfhkmaoaaGreatDoor
namespace Go.Proofs.YthkmpihfhkmaoaaGreatDoor
open Go.ChangeShapes Go.WideShapes Go.ChangeAt Go.RowKit
set_option maxRecDepth 20000 in
set_option maxHeartbeats 4000000 in
theorem changeUnpin_no (d:Nat) (s nm tx:ByteArray) (num:Int) (ra:Option Addr) (rn rc:Nat) (c:Int) (a b:ByteArray) (w:World) (h:∀X,Below w.heap.size w X->Calls Tryz.prog 146 #[.pointer (some ⟨d,0,none⟩),.string nm] X fun e w'=>e=.panicked [{v:=refV c a b,recovered:=false}]/\Below X.heap.size X w'):
 Calls Tryz.prog 112 #[.pointer (some ⟨d,0,none⟩),.agg #[.int .i64 3,.string s,.string nm,.int .i64 num,.string tx,.slice ra rn rc]] w fun e w'=>e=.panicked [{v:=refV c a b,recovered:=false}]/\Below w.heap.size w w':=by
 obtain⟨W,hW⟩:∃W,W=((w.alloc (.cells #[.int .i64 3,.string s,.string nm,.int .i64 num,.string tx,.slice ra rn rc] 45)).alloc (.cells #[.int .i64 0,.int .i64 0,.int .i64 0,.int .i64 0,.int .i64 0,.slice none 0 0,.slice none 0 0,.slice none 0 0,.string ⟨#[]⟩,.int .i64 0,.string ⟨#[]⟩,.string ⟨#[]⟩] 40)).alloc (.cells #[.int .i64 0,.int .i64 0,.int .i64 0,.int .i64 0,.int .i64 0,.slice none 0 0,.slice none 0 0,.slice none 0 0,.string ⟨#[]⟩,.int .i64 0,.string ⟨#[]⟩,.string ⟨#[]⟩] 40):=⟨_,rfl⟩
 have hB:Below w.heap.size w W:=by rw[hW];exact(((Below.refl _ _).alloc (Nat.le_refl _) _).alloc (by simp) _).alloc (by simp;omega) _
 have xE:CellsAt W w.heap.size [.int .i64 3,.string s,.string nm,.int .i64 num,.string tx,.slice ra rn rc]:=by
  have h1:=CellsAt.new w [.int .i64 3,.string s,.string nm,.int .i64 num,.string tx,.slice ra rn rc] 45;rw[hW];exact CellsAt.below (CellsAt.below h1 ((Below.refl _ _).alloc (Nat.le_refl _) _)) ((Below.refl _ _).alloc (Nat.le_refl _) _)
 have HC:Hid _:=h W hB;have HW:Hid _:=hW;obtain⟨e0,_⟩:=xE 0 _ rfl;obtain⟨e1,_⟩:=xE 1 _ rfl;obtain⟨e2,_⟩:=xE 2 _ rfl;obtain⟨e3,_⟩:=xE 3 _ rfl;clear hW xE h;go_enter Tryz.func112,Tryz.ntmps112;go_upto_region 2 with fail;rw[←HW.out];clear HW;go_wp2_with fail;refine Calls.mono HC.out ?_;rintro e w1 ⟨rfl,hb1⟩;exact⟨rfl,rfl,hB.trans (hb1.mono hB.size)⟩
set_option maxRecDepth 20000 in
set_option maxHeartbeats 4000000 in
theorem changeLease_no (d:Nat) (s nm tx:ByteArray) (num:Int) (ra:Option Addr) (rn rc:Nat) (c:Int) (a b:ByteArray) (w:World) (h:∀X,Below w.heap.size w X->Calls Tryz.prog 144 #[.pointer (some ⟨d,0,none⟩),.string s,.int .i64 num] X fun e w'=>e=.panicked [{v:=refV c a b,recovered:=false}]/\Below X.heap.size X w'):
 Calls Tryz.prog 112 #[.pointer (some ⟨d,0,none⟩),.agg #[.int .i64 4,.string s,.string nm,.int .i64 num,.string tx,.slice ra rn rc]] w fun e w'=>e=.panicked [{v:=refV c a b,recovered:=false}]/\Below w.heap.size w w':=by
 obtain⟨W,hW⟩:∃W,W=((w.alloc (.cells #[.int .i64 4,.string s,.string nm,.int .i64 num,.string tx,.slice ra rn rc] 45)).alloc (.cells #[.int .i64 0,.int .i64 0,.int .i64 0,.int .i64 0,.int .i64 0,.slice none 0 0,.slice none 0 0,.slice none 0 0,.string ⟨#[]⟩,.int .i64 0,.string ⟨#[]⟩,.string ⟨#[]⟩] 40)).alloc (.cells #[.int .i64 0,.int .i64 0,.int .i64 0,.int .i64 0,.int .i64 0,.slice none 0 0,.slice none 0 0,.slice none 0 0,.string ⟨#[]⟩,.int .i64 0,.string ⟨#[]⟩,.string ⟨#[]⟩] 40):=⟨_,rfl⟩
 have hB:Below w.heap.size w W:=by rw[hW];exact(((Below.refl _ _).alloc (Nat.le_refl _) _).alloc (by simp) _).alloc (by simp;omega) _
 have xE:CellsAt W w.heap.size [.int .i64 4,.string s,.string nm,.int .i64 num,.string tx,.slice ra rn rc]:=by
  have h1:=CellsAt.new w [.int .i64 4,.string s,.string nm,.int .i64 num,.string tx,.slice ra rn rc] 45;rw[hW];exact CellsAt.below (CellsAt.below h1 ((Below.refl _ _).alloc (Nat.le_refl _) _)) ((Below.refl _ _).alloc (Nat.le_refl _) _)
 have HC:Hid _:=h W hB;have HW:Hid _:=hW;obtain⟨e0,_⟩:=xE 0 _ rfl;obtain⟨e1,_⟩:=xE 1 _ rfl;obtain⟨e2,_⟩:=xE 2 _ rfl;obtain⟨e3,_⟩:=xE 3 _ rfl;clear hW xE h;go_enter Tryz.func112,Tryz.ntmps112;go_upto_region 2 with fail;rw[←HW.out];clear HW;go_wp2_with fail;refine Calls.mono HC.out ?_;rintro e w1 ⟨rfl,hb1⟩;exact⟨rfl,rfl,hB.trans (hb1.mono hB.size)⟩
set_option maxRecDepth 20000 in
set_option maxHeartbeats 4000000 in
theorem changeGive_no (d:Nat) (s nm tx:ByteArray) (num:Int) (ra:Option Addr) (rn rc:Nat) (c:Int) (a b:ByteArray) (w:World) (h:∀X,Below w.heap.size w X->Calls Tryz.prog 147 #[.pointer (some ⟨d,0,none⟩),.int .i64 num] X fun e w'=>e=.panicked [{v:=refV c a b,recovered:=false}]/\Below X.heap.size X w'):
 Calls Tryz.prog 112 #[.pointer (some ⟨d,0,none⟩),.agg #[.int .i64 5,.string s,.string nm,.int .i64 num,.string tx,.slice ra rn rc]] w fun e w'=>e=.panicked [{v:=refV c a b,recovered:=false}]/\Below w.heap.size w w':=by
 obtain⟨W,hW⟩:∃W,W=((w.alloc (.cells #[.int .i64 5,.string s,.string nm,.int .i64 num,.string tx,.slice ra rn rc] 45)).alloc (.cells #[.int .i64 0,.int .i64 0,.int .i64 0,.int .i64 0,.int .i64 0,.slice none 0 0,.slice none 0 0,.slice none 0 0,.string ⟨#[]⟩,.int .i64 0,.string ⟨#[]⟩,.string ⟨#[]⟩] 40)).alloc (.cells #[.int .i64 0,.int .i64 0,.int .i64 0,.int .i64 0,.int .i64 0,.slice none 0 0,.slice none 0 0,.slice none 0 0,.string ⟨#[]⟩,.int .i64 0,.string ⟨#[]⟩,.string ⟨#[]⟩] 40):=⟨_,rfl⟩
 have hB:Below w.heap.size w W:=by rw[hW];exact(((Below.refl _ _).alloc (Nat.le_refl _) _).alloc (by simp) _).alloc (by simp;omega) _
 have xE:CellsAt W w.heap.size [.int .i64 5,.string s,.string nm,.int .i64 num,.string tx,.slice ra rn rc]:=by
  have h1:=CellsAt.new w [.int .i64 5,.string s,.string nm,.int .i64 num,.string tx,.slice ra rn rc] 45;rw[hW];exact CellsAt.below (CellsAt.below h1 ((Below.refl _ _).alloc (Nat.le_refl _) _)) ((Below.refl _ _).alloc (Nat.le_refl _) _)
 have HC:Hid _:=h W hB;have HW:Hid _:=hW;obtain⟨e0,_⟩:=xE 0 _ rfl;obtain⟨e1,_⟩:=xE 1 _ rfl;obtain⟨e2,_⟩:=xE 2 _ rfl;obtain⟨e3,_⟩:=xE 3 _ rfl;clear hW xE h;go_enter Tryz.func112,Tryz.ntmps112;go_upto_region 2 with fail;rw[←HW.out];clear HW;go_wp2_with fail;refine Calls.mono HC.out ?_;rintro e w1 ⟨rfl,hb1⟩;exact⟨rfl,rfl,hB.trans (hb1.mono hB.size)⟩
set_option maxRecDepth 20000 in
set_option maxHeartbeats 4000000 in
theorem changeWait_no (d:Nat) (s nm tx:ByteArray) (num:Int) (ra:Option Addr) (rn rc:Nat) (c:Int) (a b:ByteArray) (w:World) (h:∀X,Below w.heap.size w X->Calls Tryz.prog 148 #[.pointer (some ⟨d,0,none⟩),.int .i64 num] X fun e w'=>e=.panicked [{v:=refV c a b,recovered:=false}]/\Below X.heap.size X w'):
 Calls Tryz.prog 112 #[.pointer (some ⟨d,0,none⟩),.agg #[.int .i64 6,.string s,.string nm,.int .i64 num,.string tx,.slice ra rn rc]] w fun e w'=>e=.panicked [{v:=refV c a b,recovered:=false}]/\Below w.heap.size w w':=by
 obtain⟨W,hW⟩:∃W,W=((w.alloc (.cells #[.int .i64 6,.string s,.string nm,.int .i64 num,.string tx,.slice ra rn rc] 45)).alloc (.cells #[.int .i64 0,.int .i64 0,.int .i64 0,.int .i64 0,.int .i64 0,.slice none 0 0,.slice none 0 0,.slice none 0 0,.string ⟨#[]⟩,.int .i64 0,.string ⟨#[]⟩,.string ⟨#[]⟩] 40)).alloc (.cells #[.int .i64 0,.int .i64 0,.int .i64 0,.int .i64 0,.int .i64 0,.slice none 0 0,.slice none 0 0,.slice none 0 0,.string ⟨#[]⟩,.int .i64 0,.string ⟨#[]⟩,.string ⟨#[]⟩] 40):=⟨_,rfl⟩
 have hB:Below w.heap.size w W:=by rw[hW];exact(((Below.refl _ _).alloc (Nat.le_refl _) _).alloc (by simp) _).alloc (by simp;omega) _
 have xE:CellsAt W w.heap.size [.int .i64 6,.string s,.string nm,.int .i64 num,.string tx,.slice ra rn rc]:=by
  have h1:=CellsAt.new w [.int .i64 6,.string s,.string nm,.int .i64 num,.string tx,.slice ra rn rc] 45;rw[hW];exact CellsAt.below (CellsAt.below h1 ((Below.refl _ _).alloc (Nat.le_refl _) _)) ((Below.refl _ _).alloc (Nat.le_refl _) _)
 have HC:Hid _:=h W hB;have HW:Hid _:=hW;obtain⟨e0,_⟩:=xE 0 _ rfl;obtain⟨e1,_⟩:=xE 1 _ rfl;obtain⟨e2,_⟩:=xE 2 _ rfl;obtain⟨e3,_⟩:=xE 3 _ rfl;clear hW xE h;go_enter Tryz.func112,Tryz.ntmps112;go_upto_region 2 with fail;rw[←HW.out];clear HW;go_wp2_with fail;refine Calls.mono HC.out ?_;rintro e w1 ⟨rfl,hb1⟩;exact⟨rfl,rfl,hB.trans (hb1.mono hB.size)⟩
set_option maxRecDepth 20000 in
set_option maxHeartbeats 4000000 in
theorem changePin_no (d:Nat) (s nm tx:ByteArray) (num:Int) (ra:Option Addr) (rn rc:Nat) (c:Int) (a b:ByteArray) (w:World) (h:∀X,Below w.heap.size w X->Calls Tryz.prog 145 #[.pointer (some ⟨d,0,none⟩),.string nm,.string s] X fun e w'=>e=.panicked [{v:=refV c a b,recovered:=false}]/\Below X.heap.size X w'):
 Calls Tryz.prog 112 #[.pointer (some ⟨d,0,none⟩),.agg #[.int .i64 2,.string s,.string nm,.int .i64 num,.string tx,.slice ra rn rc]] w fun e w'=>e=.panicked [{v:=refV c a b,recovered:=false}]/\Below w.heap.size w w':=by
 obtain⟨W,hW⟩:∃W,W=((w.alloc (.cells #[.int .i64 2,.string s,.string nm,.int .i64 num,.string tx,.slice ra rn rc] 45)).alloc (.cells #[.int .i64 0,.int .i64 0,.int .i64 0,.int .i64 0,.int .i64 0,.slice none 0 0,.slice none 0 0,.slice none 0 0,.string ⟨#[]⟩,.int .i64 0,.string ⟨#[]⟩,.string ⟨#[]⟩] 40)).alloc (.cells #[.int .i64 0,.int .i64 0,.int .i64 0,.int .i64 0,.int .i64 0,.slice none 0 0,.slice none 0 0,.slice none 0 0,.string ⟨#[]⟩,.int .i64 0,.string ⟨#[]⟩,.string ⟨#[]⟩] 40):=⟨_,rfl⟩
 have hB:Below w.heap.size w W:=by rw[hW];exact(((Below.refl _ _).alloc (Nat.le_refl _) _).alloc (by simp) _).alloc (by simp;omega) _
 have xE:CellsAt W w.heap.size [.int .i64 2,.string s,.string nm,.int .i64 num,.string tx,.slice ra rn rc]:=by
  have h1:=CellsAt.new w [.int .i64 2,.string s,.string nm,.int .i64 num,.string tx,.slice ra rn rc] 45;rw[hW];exact CellsAt.below (CellsAt.below h1 ((Below.refl _ _).alloc (Nat.le_refl _) _)) ((Below.refl _ _).alloc (Nat.le_refl _) _)
 have HC:Hid _:=h W hB;have HW:Hid _:=hW;obtain⟨e0,_⟩:=xE 0 _ rfl;obtain⟨e1,_⟩:=xE 1 _ rfl;obtain⟨e2,_⟩:=xE 2 _ rfl;obtain⟨e3,_⟩:=xE 3 _ rfl;clear hW xE h;go_enter Tryz.func112,Tryz.ntmps112;go_upto_region 2 with fail;rw[←HW.out];clear HW;go_wp2_with fail;refine Calls.mono HC.out ?_;rintro e w1 ⟨rfl,hb1⟩;exact⟨rfl,rfl,hB.trans (hb1.mono hB.size)⟩
set_option maxRecDepth 20000 in
set_option maxHeartbeats 4000000 in
theorem attempt_no (d:Nat) (kd:Int) (s nm tx:ByteArray) (num:Int) (ra:Option Addr) (rn rc:Nat) (c:Int) (a b:ByteArray) (w:World) (h:∀X,Below w.heap.size w X->Calls Tryz.prog 112 #[.pointer (some ⟨d,0,none⟩),.agg #[.int .i64 kd,.string s,.string nm,.int .i64 num,.string tx,.slice ra rn rc]] X fun e w'=>e=.panicked [{v:=refV c a b,recovered:=false}]/\Below X.heap.size X w'):
 Calls Tryz.prog 45 #[.pointer (some ⟨d,0,none⟩),.agg #[.int .i64 kd,.string s,.string nm,.int .i64 num,.string tx,.slice ra rn rc]] w fun e w'=>e=.returned (.agg (refC c a b).toArray)/\Below w.heap.size w w':=by
 have hmf:∀(fn:Fn) (first cap:Array Value) (w:World),(Instr.makeFunc fn first cap).run Tryz.prog w=.ok (.func fn first cap) w:=fun _ _ _ _=>rfl
 obtain⟨W,hW⟩:∃W,W=(w.alloc (.cells #[.int .i64 kd,.string s,.string nm,.int .i64 num,.string tx,.slice ra rn rc] 45)).alloc (.cells #[.int .i64 0,.int .i64 0,.int .i64 0,.int .i64 0,.int .i64 0,.slice none 0 0,.slice none 0 0,.slice none 0 0,.string ⟨#[]⟩,.int .i64 0,.string ⟨#[]⟩,.string ⟨#[]⟩] 40):=⟨_,rfl⟩
 have hB:Below w.heap.size w W:=by rw[hW];exact((Below.refl _ _).alloc (Nat.le_refl _) _).alloc (by simp) _
 have hzW:W.heap.size=w.heap.size+2:=by rw[hW];simp
 have xE:CellsAt W w.heap.size [.int .i64 kd,.string s,.string nm,.int .i64 num,.string tx,.slice ra rn rc]:=by
  have h1:=CellsAt.new w [.int .i64 kd,.string s,.string nm,.int .i64 num,.string tx,.slice ra rn rc] 45;rw[hW];exact CellsAt.below h1 ((Below.refl _ _).alloc (Nat.le_refl _) _)
 have zR:CellsAt W (w.heap.size+1) z12:=by
  have h1:=CellsAt.new (w.alloc (.cells #[.int .i64 kd,.string s,.string nm,.int .i64 num,.string tx,.slice ra rn rc] 45)) z12 40;rw[World.size_alloc] at h1;rw[hW];exact h1
 obtain⟨e0,_⟩:=xE 0 _ rfl;obtain⟨e1,_⟩:=xE 1 _ rfl;obtain⟨e2,_⟩:=xE 2 _ rfl;obtain⟨e3,_⟩:=xE 3 _ rfl;obtain⟨e4,_⟩:=xE 4 _ rfl;obtain⟨e5,_⟩:=xE 5 _ rfl;have HC:Hid _:=h W hB;have HW:Hid _:=hW;have HZ:Hid (CellsAt W (w.heap.size+1) z12):=zR;have HzW:Hid (W.heap.size=w.heap.size+2):=hzW;clear hW zR hzW xE h
 go_enter_defers Tryz.func45,Tryz.ntmps45
 go_upto_region 1 with fail;rw[←HW.out];clear HW;go_wp2_with fail;refine Calls.mono HC.out ?_;rintro e w1 ⟨rfl,hb1⟩;have zR1:CellsAt w1 (w.heap.size+1) z12:=CellsAt.below (v:=.int .i64 0) HZ.out hb1;clear e0 e1 e2 e3 e4 e5 HC;refine leaves_cons (f:=111) (args:= #[.pointer (some ⟨w.heap.size+1,0,none⟩)]) (by simp) (by simp[go_sem]) ?_;refine(catch_panic (w.heap.size+1) c a b w1 zR1).mono ?_
 rintro e u' w'' ⟨rfl,rfl,hc,ht⟩;have y0:=(hc 0 _ rfl).1;have y1:=(hc 1 _ rfl).1;have y2:=(hc 2 _ rfl).1;have y3:=(hc 3 _ rfl).1;have y4:=(hc 4 _ rfl).1;have y5:=(hc 5 _ rfl).1;have y6:=(hc 6 _ rfl).1;have y7:=(hc 7 _ rfl).1;have y8:=(hc 8 _ rfl).1;have y9:=(hc 9 _ rfl).1;have y10:=(hc 10 _ rfl).1;have y11:=(hc 11 _ rfl).1
 simp[Leaves,settle,results,Tryz.results45,go_sem,y0,y1,y2,y3,y4,y5,y6,y7,y8,y9,y10,y11];exact⟨rfl,(hB.trans (hb1.mono hB.size)).trans (Tn.below ht (by have:=hb1.size;have:=HzW.out;omega) (by simp))⟩
end Go.Proofs.YthkmpihfhkmaoaaGreatDoor
namespace Go.Proofs.YthkmpihfhkmaoaaGreatDoor
open Go.ChangeShapes Go.WideShapes Go.ChangeAt Go.RowKit
set_option maxRecDepth 20000 in
set_option maxHeartbeats 4000000 in
theorem attempt_yes (base d m:Nat) (V:List Nat) (kd:Int) (s nm tx:ByteArray) (num:Int) (ra:Option Addr) (rn rc:Nat) (sm:ByteArray) (le:Int) (wd now given births:Int) (ks:List Kd) (ps:List Pd) (ls:List Ld) (w:World) (hV:∀b∈V,b<w.heap.size) (hbase:base<=w.heap.size) (hd:d<w.heap.size)
 (h:∀X,Below w.heap.size w X->Calls Tryz.prog 112 #[.pointer (some ⟨d,0,none⟩),.agg #[.int .i64 kd,.string s,.string nm,.int .i64 num,.string tx,.slice ra rn rc]] X fun e w'=>e=.returned (.agg #[.int .i64 0,.int .i64 0,.int .i64 0,.int .i64 0,.int .i64 0,.slice none 0 0,.slice none 0 0,.slice none 0 0,.string sm,.int .i64 le,.string ⟨#[]⟩,.string ⟨#[]⟩])/\∃O' P' L',DU w' base d m O' P' L' wd now given births ks ps ls/\Tn V X w'):
 Calls Tryz.prog 45 #[.pointer (some ⟨d,0,none⟩),.agg #[.int .i64 kd,.string s,.string nm,.int .i64 num,.string tx,.slice ra rn rc]] w fun e w'=>e=.returned (.agg #[.int .i64 0,.int .i64 0,.int .i64 0,.int .i64 0,.int .i64 0,.slice none 0 0,.slice none 0 0,.slice none 0 0,.string sm,.int .i64 le,.string ⟨#[]⟩,.string ⟨#[]⟩])/\∃O' P' L',DU w' base d m O' P' L' wd now given births ks ps ls/\Tn V w w':=by
 have hmf:∀(fn:Fn) (first cap:Array Value) (w:World),(Instr.makeFunc fn first cap).run Tryz.prog w=.ok (.func fn first cap) w:=fun _ _ _ _=>rfl
 obtain⟨W,hW⟩:∃W,W=(w.alloc (.cells #[.int .i64 kd,.string s,.string nm,.int .i64 num,.string tx,.slice ra rn rc] 45)).alloc (.cells #[.int .i64 0,.int .i64 0,.int .i64 0,.int .i64 0,.int .i64 0,.slice none 0 0,.slice none 0 0,.slice none 0 0,.string ⟨#[]⟩,.int .i64 0,.string ⟨#[]⟩,.string ⟨#[]⟩] 40):=⟨_,rfl⟩
 have hB:Below w.heap.size w W:=by rw[hW];exact((Below.refl _ _).alloc (Nat.le_refl _) _).alloc (by simp) _
 have hzW:W.heap.size=w.heap.size+2:=by rw[hW];simp
 have xE:CellsAt W w.heap.size [.int .i64 kd,.string s,.string nm,.int .i64 num,.string tx,.slice ra rn rc]:=by
  have h1:=CellsAt.new w [.int .i64 kd,.string s,.string nm,.int .i64 num,.string tx,.slice ra rn rc] 45;rw[hW];exact CellsAt.below h1 ((Below.refl _ _).alloc (Nat.le_refl _) _)
 have zR:CellsAt W (w.heap.size+1) z12:=by
  have h1:=CellsAt.new (w.alloc (.cells #[.int .i64 kd,.string s,.string nm,.int .i64 num,.string tx,.slice ra rn rc] 45)) z12 40;rw[World.size_alloc] at h1;rw[hW];exact h1
 have hRb:W.heap[w.heap.size+1]?=some (.cells #[.int .i64 0,.int .i64 0,.int .i64 0,.int .i64 0,.int .i64 0,.slice none 0 0,.slice none 0 0,.slice none 0 0,.string ⟨#[]⟩,.int .i64 0,.string ⟨#[]⟩,.string ⟨#[]⟩] 40):=by
  have:=heap_alloc_new (w.alloc (.cells #[.int .i64 kd,.string s,.string nm,.int .i64 num,.string tx,.slice ra rn rc] 45)) (.cells #[.int .i64 0,.int .i64 0,.int .i64 0,.int .i64 0,.int .i64 0,.slice none 0 0,.slice none 0 0,.slice none 0 0,.string ⟨#[]⟩,.int .i64 0,.string ⟨#[]⟩,.string ⟨#[]⟩] 40);rw[World.size_alloc] at this;rw[hW];exact this
 obtain⟨e0,_⟩:=xE 0 _ rfl;obtain⟨e1,_⟩:=xE 1 _ rfl;obtain⟨e2,_⟩:=xE 2 _ rfl;obtain⟨e3,_⟩:=xE 3 _ rfl;obtain⟨e4,_⟩:=xE 4 _ rfl;obtain⟨e5,_⟩:=xE 5 _ rfl;have HC:Hid _:=h W hB;have HW:Hid _:=hW
 have HZ:Hid (CellsAt W (w.heap.size+1) z12/\W.heap[w.heap.size+1]?=some (.cells #[.int .i64 0,.int .i64 0,.int .i64 0,.int .i64 0,.int .i64 0,.slice none 0 0,.slice none 0 0,.slice none 0 0,.string ⟨#[]⟩,.int .i64 0,.string ⟨#[]⟩,.string ⟨#[]⟩] 40)/\Below w.heap.size w W/\W.heap.size=w.heap.size+2):=⟨zR,hRb,hB,hzW⟩;have HV:Hid (∀b∈V,b<w.heap.size):=hV;clear hW zR hzW xE h hRb hB hV
 go_enter_defers Tryz.func45,Tryz.ntmps45
 go_upto_region 1 with fail;rw[←HW.out];clear HW;go_wp2_with fail;refine Calls.mono HC.out ?_;rintro e w1 ⟨rfl,O',P',L',hd1,ht1⟩;have zz:=HZ.out.2.2.2;have hnv:w.heap.size+1∉V:=fun h=>by have:=HV.out _ h;omega
 have zR1:CellsAt w1 (w.heap.size+1) z12:=CellsAt.same HZ.out.1 (ht1.block _ (by omega) hnv);have hR1:w1.heap[w.heap.size+1]?=some (.cells #[.int .i64 0,.int .i64 0,.int .i64 0,.int .i64 0,.int .i64 0,.slice none 0 0,.slice none 0 0,.slice none 0 0,.string ⟨#[]⟩,.int .i64 0,.string ⟨#[]⟩,.string ⟨#[]⟩] 40):=(ht1.block _ (by omega) hnv).trans HZ.out.2.1
 have H1:Hid _:=And.intro hd1 (And.intro ht1 (hd1.notin hR1 (by omega)));obtain⟨⟨y0,q0⟩,⟨y1,q1⟩,⟨y2,q2⟩,⟨y3,q3⟩,⟨y4,q4⟩,⟨y5,q5⟩,⟨y6,q6⟩,⟨y7,q7⟩,⟨y8,q8⟩,⟨y9,q9⟩,⟨y10,q10⟩,y11,q11⟩:=z12at zR1;clear hd1 ht1 zR1 hR1 e0 e1 e2 e3 e4 e5 HC zz hnv;go_wp2;refine leaves_cons (f:=111) (args:= #[.pointer (some ⟨w.heap.size+1,0,none⟩)]) (by simp) (by simp[go_sem]) ?_
 refine(catch_idle ⟨w.heap.size+1,0,none⟩ _).mono ?_;rintro e u' w'' ⟨rfl,rfl,rfl⟩;simp[Leaves,settle,results,Tryz.results45,go_sem,y0,y1,y2,y3,y4,y5,y6,y7,y8,y9,y10,y11]
 exact⟨⟨O',P',L',H1.out.1.turn (tn12 w1 (w.heap.size+1) _ _ _ _ _ _ _ _ _ _ _ _) (by intro b hb;simp at hb;subst hb;exact⟨by omega,H1.out.2.2⟩)⟩,Tn.fresh ((Tn.of HZ.out.2.2.1).trans H1.out.2.1) (tn12 w1 (w.heap.size+1) _ _ _ _ _ _ _ _ _ _ _ _) (by omega)⟩
end Go.Proofs.YthkmpihfhkmaoaaGreatDoor
