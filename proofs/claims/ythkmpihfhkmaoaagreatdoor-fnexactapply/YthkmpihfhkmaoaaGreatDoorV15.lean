import Derived.Test.YthkmpihfhkmaoaaGreatDoorV14
import Derived.Test.YthkmpihfhkmaoaaGreatDoorV10
namespace Go.Proofs.YthkmpihfhkmaoaaGreatDoor
open Go.ChangeShapes Go.WideShapes Go.ChangeAt Go.RowKit
set_option maxRecDepth 20000 in
set_option maxHeartbeats 4000000 in
theorem pin_new (base d m:Nat) (O P L:Value) (wd now given births:Int) (ks:List Kd) (ps:List Pd) (ls:List Ld) (n s:ByteArray) (w:World) (h:DU w base d m O P L wd now given births ks ps ls) (hsz:∀k∈ks,(k.sum.size:Int)=wd) (hths:There ks s) (hl:ps.length<100) (hsort:ps.Pairwise (fun a b=>less a.name b.name=true)) (hth:¬∃x∈ps,x.name=n):
 Calls Tryz.prog 145 #[.pointer (some ⟨d,0,none⟩),.string n,.string s] w fun e w'=>e=.returned (.tuple #[])/\∃P',DU w' base d m O P' L wd now given births ks (pinP ps n s) ls/\Tn (d::P.ownBlock.toList) w w':=by
 obtain⟨pa,pcp,hLe⟩:=own_val h.dr.pin;subst hLe;have HN:Hid _:=need_yes base d m O (.slice pa ps.length pcp) L wd now given births ks ps ls s w h.dr hsz hths;have HD:Hid (DU w base d m O (.slice pa ps.length pcp) L wd now given births ks ps ls):=h;have HSo:Hid (ps.Pairwise (fun a b=>less a.name b.name=true)):=hsort;have HTh:Hid (¬∃x∈ps,x.name=n):=hth
 have hll:((ps.length:Int)==100)=false:=by simp;omega
 clear h hsort hth hsz hths;go_enter Tryz.func145,Tryz.ntmps145;go_wp2_with fail;refine Calls.mono HN.out ?_;rintro e w1 ⟨rfl,hb1⟩;have hD1:=HD.out.below hb1;have HS:Hid _:=pinPlaceV base d m O (.slice pa ps.length pcp) L wd now given births ks ps ls n w1 hD1 (by omega) HSo.out;clear HN;go_wp2_with fail;refine Calls.mono HS.out ?_;rintro e w2 ⟨i,rfl,hp1,hb2⟩
 have hdec:decide (∃x,ps[i]?=some x/\x.name=n)=false:=by
  rw[decide_eq_false_iff_not];rintro⟨x,hx,hn⟩;exact HTh.out ⟨x,List.mem_of_getElem? hx,hn⟩
 have HE:Hid (pinP ps n s=ps.take i++[⟨n,s⟩]++ps.drop i):=pinP_insert hp1 HTh.out;have hD2:=hD1.below hb2;have HD2:Hid (DU w2 base d m O (.slice pa ps.length pcp) L wd now given births ks ps ls):=hD2;have HB:Hid (Below w.heap.size w w2):=hb1.trans (hb2.mono hb1.size);obtain⟨c6,_⟩:=hD2.dr.box 6 _ rfl;obtain⟨A,hA⟩:∃A,A=w2.alloc (.cells #[.string n,.string s] 130):=⟨_,rfl⟩
 have bA:Below w2.heap.size w2 A:=by rw[hA];exact(Below.refl _ _).alloc (Nat.le_refl _) _
 have hDA:=hD2.below bA;have HDA:Hid (DU A base d m O (.slice pa ps.length pcp) L wd now given births ks ps ls):=hDA;have HBA:Hid (Below w2.heap.size w2 A):=bA;have hil:=hp1.le;have hcall:=insertPin_any (.slice pa ps.length pcp) i ps ⟨n,s⟩ w2.heap.size A base hDA.dr.pin (by omega) hil hDA.lo (fun e=>Nat.lt_irrefl _ (own_lt hD2.dr.pin e).2) (by rw[hA];exact heap_alloc_new w2 _);have HI:Hid _:=hcall
 have HA:Hid _:=hA;obtain⟨e6,_⟩:=hDA.dr.box 6 _ rfl;rw[hdec];clear hdec hD1 hD2 hb1 hb2 HD HS HTh HSo hp1 hcall hDA bA hA;go_wp2_with fail;rw[←HA.out];refine Calls.mono HI.out ?_;rintro e w3 ⟨P',rfl,ho3,hg3,hk3⟩;obtain⟨pa',pc',hPe⟩:=own_val ho3;subst hPe;have hne:∀b,(Value.slice pa ps.length pcp).ownBlock=some b->b≠d:=fun b hb=>((ap_parts HDA.out.dr.ap).2.2.1 b hb).1
 have hne':∀b,(Value.slice pa' (ps.length+1) pc').ownBlock=some b->b≠d:=fun b hb=>by
  rcases hk3 with hk3|hk3
  ·exact hne b (hk3▸hb)
  ·rw[hk3] at hb
   have:=HDA.out.dr.box.lt;cases hb;omega
 have hbox3:CellsAt w3 d [.int .i64 wd,.map (some m),.int .i64 now,.int .i64 given,.int .i64 births,O,.slice pa ps.length pcp,L]:=CellsAt.same HDA.out.dr.box (hg3.block d HDA.out.dr.box.lt (fun e=>hne d e.symm rfl));obtain⟨f6,k6⟩:=hbox3 6 _ rfl
 have hK:∃P'',DU (w3.setCell ⟨d,6,none⟩ (.slice pa' (ps.length+1) pc')) base d m O P'' L wd now given births ks (pinP ps n s) ls/\Tn (d::(Value.slice pa ps.length pcp).ownBlock.toList) w (w3.setCell ⟨d,6,none⟩ (.slice pa' (ps.length+1) pc')):=by
  have t1:Tn (d::(Value.slice pa ps.length pcp).ownBlock.toList) A (w3.setCell ⟨d,6,none⟩ (.slice pa' (ps.length+1) pc')):=
   ((tn_grown hg3).mono (fun b hb=>List.mem_cons_of_mem _ hb)).trans ((tn1 w3 d 6 _).mono (by simp))
  refine⟨_,HDA.out.newP t1 (hbox3.set 6 _) ?_ ?_,((Tn.of HB.out).trans (Tn.of HBA.out)).trans t1⟩
  ·have hlen:(pinP ps n s).length=ps.length+1:=by rw[HE.out];simp;omega
   rw[hlen,HE.out];exact own_set ho3 hne' 6 _
  ·rcases hk3 with hk3|hk3
   ·exact .inl hk3
   ·exact .inr ⟨_,hk3,Nat.le_refl _⟩
 have HK:Hid _:=hK;clear hK ho3 hg3 hbox3 e6 hk3 hne hne';go_wp2
 go_end0
 exact⟨rfl,HK.out⟩
end Go.Proofs.YthkmpihfhkmaoaaGreatDoor
namespace Go.Proofs.YthkmpihfhkmaoaaGreatDoor
open Go.ChangeShapes Go.WideShapes Go.ChangeAt Go.RowKit
theorem pin_yes (base d m:Nat) (O P L:Value) (wd now given births:Int) (ks:List Kd) (ps:List Pd) (ls:List Ld) (n s:ByteArray) (w:World) (h:DU w base d m O P L wd now given births ks ps ls) (hsz:∀k∈ks,(k.sum.size:Int)=wd) (hths:There ks s) (hl:ps.length<=100) (hsort:ps.Pairwise (fun a b=>less a.name b.name=true)) (hroom:(∃x∈ps,x.name=n)∨ps.length<100):
 Calls Tryz.prog 145 #[.pointer (some ⟨d,0,none⟩),.string n,.string s] w fun e w'=>e=.returned (.tuple #[])/\∃P',DU w' base d m O P' L wd now given births ks (pinP ps n s) ls/\Tn (d::P.ownBlock.toList) w w':=by
 by_cases hth:∃x∈ps,x.name=n
 ·exact pin_old base d m O P L wd now given births ks ps ls n s w h hsz hths (by omega) hsort hth
 ·exact pin_new base d m O P L wd now given births ks ps ls n s w h hsz hths (by rcases hroom with h|h;exact absurd h hth;exact h) hsort hth
set_option maxRecDepth 20000 in
set_option maxHeartbeats 4000000 in
theorem changePin_yes (base d m:Nat) (O P L:Value) (wd now given births:Int) (ks:List Kd) (ps:List Pd) (ls:List Ld) (s nm tx:ByteArray) (num:Int) (ra:Option Addr) (rn rc:Nat) (w:World) (h:DU w base d m O P L wd now given births ks ps ls) (hsz:∀k∈ks,(k.sum.size:Int)=wd) (hths:There ks s) (hl:ps.length<=100) (hsort:ps.Pairwise (fun a b=>less a.name b.name=true)) (hroom:(∃x∈ps,x.name=nm)∨ps.length<100):
 Calls Tryz.prog 112 #[.pointer (some ⟨d,0,none⟩),.agg #[.int .i64 2,.string s,.string nm,.int .i64 num,.string tx,.slice ra rn rc]] w fun e w'=>e=.returned (.agg z12.toArray)/\∃P',DU w' base d m O P' L wd now given births ks (pinP ps nm s) ls/\Tn (d::P.ownBlock.toList) w w':=by
 obtain⟨W,hW⟩:∃W,W=((w.alloc (.cells #[.int .i64 2,.string s,.string nm,.int .i64 num,.string tx,.slice ra rn rc] 45)).alloc (.cells #[.int .i64 0,.int .i64 0,.int .i64 0,.int .i64 0,.int .i64 0,.slice none 0 0,.slice none 0 0,.slice none 0 0,.string ⟨#[]⟩,.int .i64 0,.string ⟨#[]⟩,.string ⟨#[]⟩] 40)).alloc (.cells #[.int .i64 0,.int .i64 0,.int .i64 0,.int .i64 0,.int .i64 0,.slice none 0 0,.slice none 0 0,.slice none 0 0,.string ⟨#[]⟩,.int .i64 0,.string ⟨#[]⟩,.string ⟨#[]⟩] 40):=⟨_,rfl⟩
 have hB:Below w.heap.size w W:=by rw[hW];exact(((Below.refl _ _).alloc (Nat.le_refl _) _).alloc (by simp) _).alloc (by simp;omega) _
 have hzW:W.heap.size=w.heap.size+3:=by rw[hW];simp
 have xE:CellsAt W w.heap.size [.int .i64 2,.string s,.string nm,.int .i64 num,.string tx,.slice ra rn rc]:=by
  have h1:=CellsAt.new w [.int .i64 2,.string s,.string nm,.int .i64 num,.string tx,.slice ra rn rc] 45;rw[hW];exact CellsAt.below (CellsAt.below h1 ((Below.refl _ _).alloc (Nat.le_refl _) _)) ((Below.refl _ _).alloc (Nat.le_refl _) _)
 have zR:CellsAt W (w.heap.size+1) z12:=by
  have h1:=CellsAt.new (w.alloc (.cells #[.int .i64 2,.string s,.string nm,.int .i64 num,.string tx,.slice ra rn rc] 45)) z12 40;rw[World.size_alloc] at h1;rw[hW];exact CellsAt.below (v:=.int .i64 0) h1 ((Below.refl _ _).alloc (Nat.le_refl _) _)
 have zO:CellsAt W (w.heap.size+2) z12:=by
  have h1:=CellsAt.new ((w.alloc (.cells #[.int .i64 2,.string s,.string nm,.int .i64 num,.string tx,.slice ra rn rc] 45)).alloc (.cells #[.int .i64 0,.int .i64 0,.int .i64 0,.int .i64 0,.int .i64 0,.slice none 0 0,.slice none 0 0,.slice none 0 0,.string ⟨#[]⟩,.int .i64 0,.string ⟨#[]⟩,.string ⟨#[]⟩] 40)) z12 40;rw[World.size_alloc,World.size_alloc] at h1;rw[hW];exact h1
 have hRb:W.heap[w.heap.size+1]?=some (.cells #[.int .i64 0,.int .i64 0,.int .i64 0,.int .i64 0,.int .i64 0,.slice none 0 0,.slice none 0 0,.slice none 0 0,.string ⟨#[]⟩,.int .i64 0,.string ⟨#[]⟩,.string ⟨#[]⟩] 40):=by
  rw[hW,Below.heap_alloc _ _ _ (by simp)];have:=heap_alloc_new (w.alloc (.cells #[.int .i64 2,.string s,.string nm,.int .i64 num,.string tx,.slice ra rn rc] 45)) (.cells #[.int .i64 0,.int .i64 0,.int .i64 0,.int .i64 0,.int .i64 0,.slice none 0 0,.slice none 0 0,.slice none 0 0,.string ⟨#[]⟩,.int .i64 0,.string ⟨#[]⟩,.string ⟨#[]⟩] 40);rw[World.size_alloc] at this;exact this
 have hD:=h.below hB;have hdl:=h.dr.box.lt;have hlt:∀b∈d::P.ownBlock.toList,b<w.heap.size:=fun b hb=>h.dr.lts b (by unfold vB;simp at hb ⊢;rcases hb with rfl|hb<;>simp[*]);have HC:Hid _:=pin_yes base d m O P L wd now given births ks ps ls nm s W hD hsz hths hl hsort hroom;have HW:Hid _:=hW
 have HZ:Hid (CellsAt W (w.heap.size+1) z12/\CellsAt W (w.heap.size+2) z12/\W.heap[w.heap.size+1]?=some (.cells #[.int .i64 0,.int .i64 0,.int .i64 0,.int .i64 0,.int .i64 0,.slice none 0 0,.slice none 0 0,.slice none 0 0,.string ⟨#[]⟩,.int .i64 0,.string ⟨#[]⟩,.string ⟨#[]⟩] 40)/\Below w.heap.size w W/\W.heap.size=w.heap.size+3/\base<=w.heap.size):=⟨zR,zO,hRb,hB,hzW,h.lo⟩
 have HLt:Hid (∀b∈d::P.ownBlock.toList,b<w.heap.size):=hlt;obtain⟨e0,_⟩:=xE 0 _ rfl;obtain⟨e1,_⟩:=xE 1 _ rfl;obtain⟨e2,_⟩:=xE 2 _ rfl;obtain⟨e3,_⟩:=xE 3 _ rfl;clear hW h hD zR zO hRb hB hzW xE hlt;go_enter Tryz.func112,Tryz.ntmps112;go_upto_region 2 with fail;rw[←HW.out];clear HW;go_wp2_with fail;refine Calls.mono HC.out ?_;rintro e w1 ⟨rfl,V,hd1,ht1⟩;have zz:=HZ.out.2.2.2.2.1
 have zR1:CellsAt w1 (w.heap.size+1) z12:=CellsAt.same HZ.out.1 (ht1.block _ (by omega) (fun h=>by have:=HLt.out _ h;omega));have zO1:CellsAt w1 (w.heap.size+2) z12:=CellsAt.same HZ.out.2.1 (ht1.block _ (by omega) (fun h=>by have:=HLt.out _ h;omega))
 have hR1:w1.heap[w.heap.size+1]?=some (.cells #[.int .i64 0,.int .i64 0,.int .i64 0,.int .i64 0,.int .i64 0,.slice none 0 0,.slice none 0 0,.slice none 0 0,.string ⟨#[]⟩,.int .i64 0,.string ⟨#[]⟩,.string ⟨#[]⟩] 40):=(ht1.block _ (by omega) (fun h=>by have:=HLt.out _ h;omega)).trans HZ.out.2.2.1;have HD1:Hid _:=And.intro hd1 (And.intro ht1 (hd1.notin hR1 (by omega)))
 obtain⟨⟨y0,q0⟩,⟨y1,q1⟩,⟨y2,q2⟩,⟨y3,q3⟩,⟨y4,q4⟩,⟨y5,q5⟩,⟨y6,q6⟩,⟨y7,q7⟩,⟨y8,q8⟩,⟨y9,q9⟩,⟨y10,q10⟩,y11,q11⟩:=z12at zR1;obtain⟨⟨v0,_⟩,⟨v1,_⟩,⟨v2,_⟩,⟨v3,_⟩,⟨v4,_⟩,⟨v5,_⟩,⟨v6,_⟩,⟨v7,_⟩,⟨v8,_⟩,⟨v9,_⟩,⟨v10,_⟩,v11,_⟩:=z12at zO1;clear hd1 ht1 zR1 zO1 hR1 e0 e1 e2 e3 HC zz;go_wp2
 refine bodyPost_ret (v:=.agg z12.toArray) (by simp[results,Tryz.results112,go_sem,y0,y1,y2,y3,y4,y5,y6,y7,y8,y9,y10,y11,z12]) rfl ⟨rfl,V,HD1.out.1.turn (tn12 w1 (w.heap.size+1) _ _ _ _ _ _ _ _ _ _ _ _) (by intro b hb;simp at hb;subst hb;exact⟨by have:=HZ.out.2.2.2.2.2;omega,HD1.out.2.2⟩),Tn.fresh ((Tn.of HZ.out.2.2.2.1).trans HD1.out.2.1) (tn12 w1 (w.heap.size+1) _ _ _ _ _ _ _ _ _ _ _ _) (by omega)⟩
set_option maxRecDepth 20000 in
set_option maxHeartbeats 4000000 in
theorem changeDropV_yes (base d m:Nat) (O P L:Value) (wd now given births:Int) (ks:List Kd) (ps:List Pd) (ls:List Ld) (s nm tx:ByteArray) (num:Int) (ra:Option Addr) (rn rc:Nat) (w:World) (hd:Dr w base d m O P L wd now given births ks ps ls) (hok:KsOk wd ks) (hp:ps.length<=100) (hl:ls.length<=200) (hth:There ks s) (hfree:¬(((∃p∈ps,p.sum=s)∨∃l∈ls,l.sum=s)∨∃k∈ks,s∈k.refs)):
 Calls Tryz.prog 112 #[.pointer (some ⟨d,0,none⟩),.agg #[.int .i64 7,.string s,.string nm,.int .i64 num,.string tx,.slice ra rn rc]] w fun e w'=>e=.returned (.agg z12.toArray)/\∃O',Dr w' base d m O' P L wd now given births (dropK ks s) ps ls/\O'.ownBlock=O.ownBlock/\Tn (vB d m O P L) w w':=by
 obtain⟨W,hW⟩:∃W,W=((w.alloc (.cells #[.int .i64 7,.string s,.string nm,.int .i64 num,.string tx,.slice ra rn rc] 45)).alloc (.cells #[.int .i64 0,.int .i64 0,.int .i64 0,.int .i64 0,.int .i64 0,.slice none 0 0,.slice none 0 0,.slice none 0 0,.string ⟨#[]⟩,.int .i64 0,.string ⟨#[]⟩,.string ⟨#[]⟩] 40)).alloc (.cells #[.int .i64 0,.int .i64 0,.int .i64 0,.int .i64 0,.int .i64 0,.slice none 0 0,.slice none 0 0,.slice none 0 0,.string ⟨#[]⟩,.int .i64 0,.string ⟨#[]⟩,.string ⟨#[]⟩] 40):=⟨_,rfl⟩
 have hB:Below w.heap.size w W:=by rw[hW];exact(((Below.refl _ _).alloc (Nat.le_refl _) _).alloc (by simp) _).alloc (by simp;omega) _
 have hzW:W.heap.size=w.heap.size+3:=by rw[hW];simp
 have e0:W.cell? ⟨w.heap.size,0,none⟩=some (.int .i64 7):=by rw[hW];simp[go_sem]
 have e1:W.cell? ⟨w.heap.size,1,none⟩=some (.string s):=by rw[hW];simp[go_sem]
 have zR:CellsAt W (w.heap.size+1) z12:=by
  have h1:=CellsAt.new (w.alloc (.cells #[.int .i64 7,.string s,.string nm,.int .i64 num,.string tx,.slice ra rn rc] 45)) z12 40;rw[World.size_alloc] at h1;rw[hW];exact CellsAt.below (v:=.int .i64 0) h1 ((Below.refl _ _).alloc (Nat.le_refl _) _)
 have zO:CellsAt W (w.heap.size+2) z12:=by
  have h1:=CellsAt.new ((w.alloc (.cells #[.int .i64 7,.string s,.string nm,.int .i64 num,.string tx,.slice ra rn rc] 45)).alloc (.cells z12.toArray 40)) z12 40;rw[World.size_alloc,World.size_alloc] at h1;rw[hW];exact h1
 have HD:Hid _:=hd.below hB;have HV:Hid (∀b∈vB d m O P L,b<w.heap.size):=by
  intro b hb;unfold vB at hb;simp only[List.mem_cons,List.mem_append,Option.mem_toList] at hb;rcases hb with rfl|rfl|hb|hb|hb
  ·exact hd.box.lt
  ·exact(hd.map.choose_spec.choose_spec.2.1).lt
  ·exact(own_lt hd.ord hb).2
  ·exact(own_lt hd.pin hb).2
  ·exact(own_lt hd.lea hb).2
 have HR:Hid (W.heap[w.heap.size+1]?=some (.cells #[.int .i64 0,.int .i64 0,.int .i64 0,.int .i64 0,.int .i64 0,.slice none 0 0,.slice none 0 0,.slice none 0 0,.string ⟨#[]⟩,.int .i64 0,.string ⟨#[]⟩,.string ⟨#[]⟩] 40)):=by
  show _=_;rw[hW,Below.heap_alloc _ _ _ (by simp)];have:=heap_alloc_new (w.alloc (.cells #[.int .i64 7,.string s,.string nm,.int .i64 num,.string tx,.slice ra rn rc] 45)) (.cells #[.int .i64 0,.int .i64 0,.int .i64 0,.int .i64 0,.int .i64 0,.slice none 0 0,.slice none 0 0,.slice none 0 0,.string ⟨#[]⟩,.int .i64 0,.string ⟨#[]⟩,.string ⟨#[]⟩] 40);rw[World.size_alloc] at this;exact this
 have hbase:base<=w.heap.size:=by have:=hd.bd;have:=hd.box.lt;omega
 have HW:Hid _:=hW;have HZ:Hid _:=And.intro zR zO;have HzW:Hid _:=hzW;clear hW hd zR zO hzW;go_enter Tryz.func112,Tryz.ntmps112;go_upto_region 2 with fail;rw[←HW.out];clear HW;go_wp2_with fail;refine(drop_yes base d m O P L wd now given births ks ps ls s W HD.out hok hp hl hth hfree).mono ?_;rintro e w1 ⟨rfl,O',hd1,hO,ht1⟩
 have zR1:CellsAt w1 (w.heap.size+1) z12:=CellsAt.same HZ.out.1 (ht1.block _ (by have:=HzW.out;omega) (fun h=>by have:=HV.out _ h;omega));have zO1:CellsAt w1 (w.heap.size+2) z12:=CellsAt.same HZ.out.2 (ht1.block _ (by have:=HzW.out;omega) (fun h=>by have:=HV.out _ h;omega));obtain⟨⟨y0,q0⟩,⟨y1,q1⟩,⟨y2,q2⟩,⟨y3,q3⟩,⟨y4,q4⟩,⟨y5,q5⟩,⟨y6,q6⟩,⟨y7,q7⟩,⟨y8,q8⟩,⟨y9,q9⟩,⟨y10,q10⟩,y11,q11⟩:=z12at zR1
 obtain⟨⟨v0,_⟩,⟨v1,_⟩,⟨v2,_⟩,⟨v3,_⟩,⟨v4,_⟩,⟨v5,_⟩,⟨v6,_⟩,⟨v7,_⟩,⟨v8,_⟩,⟨v9,_⟩,⟨v10,_⟩,v11,_⟩:=z12at zO1;have H1:Hid _:=And.intro hd1 (And.intro hO ht1);clear hd1 hO ht1 zR1 zO1 e0 e1 HD;go_wp2;have hRv:w.heap.size+1∉vB d m O' P L:=fun h=>by
  have:w.heap.size+1∈vB d m O P L:=by
   unfold vB at h ⊢;rw[H1.out.2.1] at h;exact h
  have:=HV.out _ this;omega
 have hRs:∀cur fz,w1.heap[w.heap.size+1]?≠some (.cells cur 9 fz):=fun cur fz e=>by
  have h1:=H1.out.2.2.block (w.heap.size+1) (by have:=HzW.out;omega) (fun h=>by have:=HV.out _ h;omega);rw[e,HR.out] at h1;simp at h1
 refine bodyPost_ret (v:=.agg z12.toArray) (by simp[results,Tryz.results112,go_sem,y0,y1,y2,y3,y4,y5,y6,y7,y8,y9,y10,y11,z12]) rfl ⟨rfl,O',Dr.apart H1.out.1 (tn12 w1 _ _ _ _ _ _ _ _ _ _ _ _ _) (by omega) hRv hRs,H1.out.2.1,Tn.fresh ((Tn.of hB).trans H1.out.2.2) (tn12 w1 _ _ _ _ _ _ _ _ _ _ _ _ _) (by omega)⟩
set_option maxRecDepth 20000 in
set_option maxHeartbeats 4000000 in
theorem changeDropV_held (base d m:Nat) (O P L:Value) (wd now given births:Int) (ks:List Kd) (ps:List Pd) (ls:List Ld) (s nm tx:ByteArray) (num:Int) (ra:Option Addr) (rn rc:Nat) (w:World) (hd:Dr w base d m O P L wd now given births ks ps ls) (hok:KsOk wd ks) (hp:ps.length<=100) (hl:ls.length<=200) (hth:There ks s) (huse:((∃p∈ps,p.sum=s)∨∃l∈ls,l.sum=s)∨∃k∈ks,s∈k.refs):
 Calls Tryz.prog 112 #[.pointer (some ⟨d,0,none⟩),.agg #[.int .i64 7,.string s,.string nm,.int .i64 num,.string tx,.slice ra rn rc]] w fun e w'=>e=.panicked [{v:=refV 6 ⟨#[]⟩ ⟨#[]⟩,recovered:=false}]/\Below w.heap.size w w':=by
 obtain⟨W,hW⟩:∃W,W=((w.alloc (.cells #[.int .i64 7,.string s,.string nm,.int .i64 num,.string tx,.slice ra rn rc] 45)).alloc (.cells #[.int .i64 0,.int .i64 0,.int .i64 0,.int .i64 0,.int .i64 0,.slice none 0 0,.slice none 0 0,.slice none 0 0,.string ⟨#[]⟩,.int .i64 0,.string ⟨#[]⟩,.string ⟨#[]⟩] 40)).alloc (.cells #[.int .i64 0,.int .i64 0,.int .i64 0,.int .i64 0,.int .i64 0,.slice none 0 0,.slice none 0 0,.slice none 0 0,.string ⟨#[]⟩,.int .i64 0,.string ⟨#[]⟩,.string ⟨#[]⟩] 40):=⟨_,rfl⟩
 have hB:Below w.heap.size w W:=by rw[hW];exact(((Below.refl _ _).alloc (Nat.le_refl _) _).alloc (by simp) _).alloc (by simp;omega) _
 have e0:W.cell? ⟨w.heap.size,0,none⟩=some (.int .i64 7):=by rw[hW];simp[go_sem]
 have e1:W.cell? ⟨w.heap.size,1,none⟩=some (.string s):=by rw[hW];simp[go_sem]
 have HD:Hid _:=hd.below hB;have HW:Hid _:=hW;clear hW hd;go_enter Tryz.func112,Tryz.ntmps112;go_upto_region 2 with fail;rw[←HW.out];clear HW;go_wp2_with fail;refine(drop_held base d m O P L wd now given births ks ps ls s W HD.out hok hp hl hth huse).mono ?_;rintro e w1 ⟨rfl,hb1⟩;exact⟨rfl,rfl,hB.trans (hb1.mono hB.size)⟩
set_option maxHeartbeats 1000000 in
theorem drop_missing (base d m:Nat) (O P L:Value) (wd now given births:Int) (ks:List Kd) (ps:List Pd) (ls:List Ld) (s:ByteArray) (w:World) (hd:Dr w base d m O P L wd now given births ks ps ls) (hsz:∀k∈ks,(k.sum.size:Int)=wd) (hth:¬There ks s):
 Calls Tryz.prog 149 #[.pointer (some ⟨d,0,none⟩),.string s] w fun e w'=>e=.panicked [{v:=refV 2 ⟨#[]⟩ ⟨#[]⟩,recovered:=false}]/\Below w.heap.size w w':=by
 have HN:Hid _:=need_no base d m O P L wd now given births ks ps ls s w hd hsz hth;clear hd hsz hth;go_enter Tryz.func149,Tryz.ntmps149;go_wp2_with fail;refine Calls.mono HN.out ?_;rintro e w1 ⟨rfl,hb1⟩;go_wp2;exact⟨rfl,rfl,hb1⟩
set_option maxRecDepth 20000 in
set_option maxHeartbeats 4000000 in
theorem changeDropV_missing (base d m:Nat) (O P L:Value) (wd now given births:Int) (ks:List Kd) (ps:List Pd) (ls:List Ld) (s nm tx:ByteArray) (num:Int) (ra:Option Addr) (rn rc:Nat) (w:World) (hd:Dr w base d m O P L wd now given births ks ps ls) (hsz:∀k∈ks,(k.sum.size:Int)=wd) (hth:¬There ks s):
 Calls Tryz.prog 112 #[.pointer (some ⟨d,0,none⟩),.agg #[.int .i64 7,.string s,.string nm,.int .i64 num,.string tx,.slice ra rn rc]] w fun e w'=>e=.panicked [{v:=refV 2 ⟨#[]⟩ ⟨#[]⟩,recovered:=false}]/\Below w.heap.size w w':=by
 obtain⟨W,hW⟩:∃W,W=((w.alloc (.cells #[.int .i64 7,.string s,.string nm,.int .i64 num,.string tx,.slice ra rn rc] 45)).alloc (.cells #[.int .i64 0,.int .i64 0,.int .i64 0,.int .i64 0,.int .i64 0,.slice none 0 0,.slice none 0 0,.slice none 0 0,.string ⟨#[]⟩,.int .i64 0,.string ⟨#[]⟩,.string ⟨#[]⟩] 40)).alloc (.cells #[.int .i64 0,.int .i64 0,.int .i64 0,.int .i64 0,.int .i64 0,.slice none 0 0,.slice none 0 0,.slice none 0 0,.string ⟨#[]⟩,.int .i64 0,.string ⟨#[]⟩,.string ⟨#[]⟩] 40):=⟨_,rfl⟩
 have hB:Below w.heap.size w W:=by rw[hW];exact(((Below.refl _ _).alloc (Nat.le_refl _) _).alloc (by simp) _).alloc (by simp;omega) _
 have e0:W.cell? ⟨w.heap.size,0,none⟩=some (.int .i64 7):=by rw[hW];simp[go_sem]
 have e1:W.cell? ⟨w.heap.size,1,none⟩=some (.string s):=by rw[hW];simp[go_sem]
 have HD:Hid _:=hd.below hB;have HW:Hid _:=hW;clear hW hd;go_enter Tryz.func112,Tryz.ntmps112;go_upto_region 2 with fail;rw[←HW.out];clear HW;go_wp2_with fail;refine(drop_missing base d m O P L wd now given births ks ps ls s W HD.out hsz hth).mono ?_;rintro e w1 ⟨rfl,hb1⟩;exact⟨rfl,rfl,hB.trans (hb1.mono hB.size)⟩
end Go.Proofs.YthkmpihfhkmaoaaGreatDoor
namespace Go.Proofs.YthkmpihfhkmaoaaGreatDoor
open Go.ChangeShapes Go.WideShapes Go.ChangeAt Go.RowKit Go.Lib
theorem insertKey_info:∃i:TypeInfo,Tryz.prog.info? 162=some i/\i.zero=some (.agg zero8)/\i.size=8/\i.bytes=8:=by
 obtain⟨i0,hi,h0,h1,h2⟩:=info_parts Tryz.infoKey;exact⟨i0,hi,h0,h1,h2⟩
theorem insertKey_v {w:World} {vb:Nat} {x:ByteArray} (hv:w.heap[vb]?=some (.cells (kCells x).toArray 162 (0,0))):∀j u,(rowC kCells [x])[j]?=some u->w.cell? ⟨vb,j,none⟩=some u:=by
 intro j u hu;rw[rowC,List.flatMap_cons,List.flatMap_nil,List.append_nil] at hu;simp only[World.cell?,hv];rw[←hu];simp
set_option maxRecDepth 20000 in
set_option maxHeartbeats 4000000 in
theorem insertKey_end (P:Value) (ss:List ByteArray) (x:ByteArray) (vb:Nat) (w:World) (base:Nat) (ho:w.ownsRow base 162 8 P ss.length (rowC kCells ss)) (hl:ss.length<=600) (hbase:base<=w.heap.size) (hv:w.heap[vb]?=some (.cells (kCells x).toArray 162 (0,0))):
 Calls Tryz.prog 198 #[P,.int .i64 ss.length,.slice (some ⟨vb,0,none⟩) 1 1] w fun e w'=>∃P',e=.returned P'/\w'.ownsRow base 162 8 P' (ss.length+1) (rowC kCells (ss++[x]))/\w.grownBy w' P.ownBlock/\(P'.ownBlock=P.ownBlock∨P'.ownBlock=some w.heap.size):=by
 obtain⟨i0,hinf,hz0,hz1,hz2⟩:=insertKey_info
 obtain⟨v',w',hr,h2,h3,_,h5⟩:=run_append_own_at (P:=Tryz.prog) w base 158 158 162 i0 _ 8 8 Tryz.underlying158 hinf hz0 hz1 hz2 rfl (by decide) P ss.length (rowC kCells ss) ho ⟨vb,0,none⟩ 1 1 (rowC kCells [x]) (by rw[row_len kC_len];rfl) (fun j u hu=>by rw[Go.WideShapes.add_plain,Nat.zero_add];exact insertKey_v hv j u hu) (cells8_one _) (by unfold maxLen;omega) (by omega) hbase
 rw[←row_append] at h2;have HO:Hid _:=And.intro h2 (And.intro h3 h5);clear h2 h3 h5;rcases ho.2 with⟨e,hn0⟩|⟨g,cap,cur,e,hb,hg,h1,h2,h3,h4⟩
 ·subst e
  rw[hn0] at HO ⊢;clear ho hv hinf hz0 hz1 hz2;go_enter Tryz.func198,Tryz.ntmps198;go_wp2_with (at_builtin;refine Lib.wpList_append_run _ rfl _ _ _ _ rfl _ _ rfl rfl _ _ hr ?_);go_ret;exact⟨v',rfl,HO.out⟩
 ·subst e
  clear ho hv hinf hz0 hz1 hz2 hg h3 h4;unfold maxLen at h2;by_cases hc:cap=ss.length
  ·subst hc
   go_enter Tryz.func198,Tryz.ntmps198;go_wp2_with (at_builtin;refine Lib.wpList_append_run _ rfl _ _ _ _ rfl _ _ rfl rfl _ _ hr ?_);go_ret;exact⟨v',rfl,HO.out⟩
  ·go_enter Tryz.func198,Tryz.ntmps198
   go_wp2_with (at_builtin;refine Lib.wpList_append_run _ rfl _ _ _ _ rfl _ _ rfl rfl _ _ hr ?_);go_ret;exact⟨v',rfl,HO.out⟩
set_option maxRecDepth 20000 in
set_option maxHeartbeats 4000000 in
theorem insertKey_shift (g cap i:Nat) (ss:List ByteArray) (x:ByteArray) (vb:Nat) (w:World) (base:Nat) (ho:w.ownsRow base 162 8 (.slice (some ⟨g,0,none⟩) ss.length cap) ss.length (rowC kCells ss)) (hl:ss.length<=600) (hi:i<ss.length) (hroom:ss.length+1<=cap) (hvg:vb≠g) (hv:w.heap[vb]?=some (.cells (kCells x).toArray 162 (0,0))):
 Calls Tryz.prog 198 #[.slice (some ⟨g,0,none⟩) ss.length cap,.int .i64 i,.slice (some ⟨vb,0,none⟩) 1 1] w fun e w'=>e=.returned (.slice (some ⟨g,0,none⟩) (ss.length+1) cap)/\w'.ownsRow base 162 8 (.slice (some ⟨g,0,none⟩) (ss.length+1) cap) (ss.length+1) (rowC kCells (ss.take i++[x]++ss.drop i))/\w.grownBy w' (some g):=by
 obtain⟨i0,hinf,hz0,hz1,hz2⟩:=insertKey_info;obtain⟨cur,hg,hc1,hc2,hc3,hc4⟩:∃cur,w.heap[g]?=some (.cells cur 162 (0,0))/\ss.length<=cap/\cap<=maxLen/\cur.size=cap *8/\cur.toList.take (ss.length *8)=rowC kCells ss:=by
  rcases ho.2 with⟨e,_⟩|⟨g',cap',cur,e,hb,hg,h1,h2,h3,h4⟩
  ·cases e
  ·cases e;exact⟨cur,hg,h1,h2,h3,h4⟩
 have hxs:(rowC kCells ss).length=ss.length *8:=row_len kC_len ss;have hvl:(rowC kCells [x]).length=8:=by rw[row_len kC_len];rfl
 have hdl:((rowC kCells ss).drop (i *8)).length=(ss.length -i) *8:=by rw[List.length_drop,hxs];omega
 have hsome:∀j,j<cap *8->(w.cell? ⟨g,j,none⟩).isSome=true:=fun j hj=>by
  simp only[World.cell?,hg];rw[Array.getElem?_eq_getElem (by omega)];rfl
 have hov:∀lb cb,(callFunc 228 #[.slice (some ⟨vb,0,none⟩) 1 1,.slice (some ⟨g,(i+1) *8,none⟩) lb cb]).run Tryz.prog w=.ok (.value (.bool false)) w:=fun lb cb=>by
  rw[run_callFunc_extern Tryz.func228 (by kernel_rfl) (by kernel_rfl) (by kernel_rfl) (e:=Extern.SlicesOverlaps.overlaps #[158,158] #[4]) (by kernel_rfl),
   Lib.run_overlaps_apart w 158 4 162 Tryz.underlying158 8 (fun w=>by simp[sizeOf,typeInfo,hinf,hz1]) ⟨vb,0,none⟩ ⟨g,(i+1) *8,none⟩ 1 1 lb cb hvg 162 162 ((kCells x).toArray:Array Value).size cur.size (by simp only[World.shape?,hv]) (by simp only[World.shape?,hg]) (by rw[hc3];omega) (by simp only[World.frozen?,hv];rfl) (by simp[World.frozen?,hv])]
  rfl
 have hcp1:∀ty dc sc,(Builtin.copy_ #[158,158] ty #[.slice (some ⟨g,(i+1) *8,none⟩) (ss.length+1 -(i+1)) dc,.slice (some ⟨g,i *8,none⟩) (ss.length+1 -i) sc]).run Tryz.prog w.drew=.ok (goInt (Nat.min (ss.length+1 -i) (ss.length+1 -(i+1)))) (w.drew.setCells g ((i+1) *8) ((rowC kCells ss).drop (i *8))):=fun ty dc sc=>
  run_copy_wide w.drew 158 158 ty 162 i0 8 g ((i+1) *8) (ss.length+1 -(i+1)) dc ⟨g,i *8,none⟩ (ss.length+1 -i) sc ((rowC kCells ss).drop (i *8)) Tryz.underlying158 hinf hz1 (by rw[hdl];congr 1;show _=min _ _;omega)
   (fun j v hj=>by
     rw[Go.WideShapes.add_plain];rw[List.getElem?_drop] at hj;have:=(List.getElem?_eq_some_iff.1 hj).1;exact(ho.cellAt _ (by omega)).trans hj)
   (fun j hj=>hsome _ (by omega)) (fun j _=>ho.frozenAt _) (fun v hv=>cells8_one _ v (List.mem_of_mem_drop hv))
 obtain⟨W1,hW1⟩:∃W1,W1=w.drew.setCells g ((i+1) *8) ((rowC kCells ss).drop (i *8)):=⟨_,rfl⟩;have hcp2:∀ty dc,(Builtin.copy_ #[158,158] ty #[.slice (some ⟨g,i *8,none⟩) (ss.length+1 -i) dc,.slice (some ⟨vb,0,none⟩) 1 1]).run Tryz.prog W1=.ok (goInt (Nat.min 1 (ss.length+1 -i))) (W1.setCells g (i *8) (rowC kCells [x])):=fun ty dc=>
  run_copy_wide W1 158 158 ty 162 i0 8 g (i *8) (ss.length+1 -i) dc ⟨vb,0,none⟩ 1 1 (rowC kCells [x]) Tryz.underlying158 hinf hz1 (by rw[hvl,show Nat.min 1 (ss.length+1 -i)=1 from Nat.min_eq_left (by omega),Nat.one_mul])
   (fun j v hj=>by
     rw[Go.WideShapes.add_plain,Nat.zero_add,hW1,World.cell?_setCells_out g _ _ _ _ (fun h _=>absurd h hvg)];exact insertKey_v hv j v hj)
   (fun j hj=>by rw[hW1];exact some_setC g ((rowC kCells ss).drop (i *8)) ((i+1) *8) w.drew (fun t ht=>hsome _ (by omega)) (i *8+j) (hsome _ (by omega))) (fun j _=>by rw[hW1,World.frozen?_setCells];exact ho.frozenAt _) (cells8_one _)
 have hfin:(W1.setCells g (i *8) (rowC kCells [x])).ownsRow base 162 8 (.slice (some ⟨g,0,none⟩) (ss.length+1) cap) (ss.length+1) (rowC kCells (ss.take i++[x]++ss.drop i))/\w.grownBy (W1.setCells g (i *8) (rowC kCells [x])) (some g):=by
  refine⟨?_,?_⟩
  ·rw[row_append,row_append,←row_take kC_len ss i (by omega),←row_drop kC_len ss i (by omega),hW1]
   exact own_shift (w:=w.drew) (own_below ho ((Below.refl _ _).drew)) (by omega) hvl hroom
  ·rw[hW1]
   exact grown_trans (grown_undrew (grown_setC g _ _ _)) (grown_setC g _ _ _)
 have HF:Hid _:=hfin;rw[←hW1] at hcp1;unfold maxLen at hc2;have hz1:¬((i:Int)=(ss.length:Int)):=by omega
 have hp0:(0:Int)<=(i:Int)+1:=by omega
 have hp1:(i:Int)+1<=(ss.length:Int)+1:=by omega
 have hp2:((i:Int)+1).toNat=i+1:=by omega
 have hp3:((ss.length:Int)+1).toNat=ss.length+1:=by omega
 have hp4:(0:Int)<=(ss.length:Int)+1:=by omega
 have hp5:(ss.length:Int)+1<=(cap:Int):=by omega
 have hb2:¬(cap=i+1):=by omega
 have hb4:¬(cap=i):=by omega
 have hb5:i<=ss.length+1:=by omega
 have hb7:(i:Int)<=(ss.length:Int)+1:=by omega
 have hb8:(i:Int)<=(ss.length:Int):=by omega
 have mixed:Tryz.prog.follows .mixedOrders=true:=by kernel_rfl
 have hw1:IntKind.i64.wrap ((i:Int)+1)=(i:Int)+1:=by rw[IntKind.wrap_i64];omega
 have hw2:IntKind.i64.wrap ((ss.length:Int)+1)=(ss.length:Int)+1:=by rw[IntKind.wrap_i64];omega
 clear ho hsome hfin hv hg hc4 hc3 hinf hz0 hz2 hxs hvl hdl hW1;go_enter Tryz.func198,Tryz.ntmps198;go_wp2_with (simp only[hov])
 go_region_law_o (refine step_copy_known rfl _ _ 158 158 rfl (.slice (some ⟨g,(i+1) *8,none⟩) (ss.length+1 -(i+1)) (cap -(i+1))) (.slice (some ⟨g,i *8,none⟩) (ss.length+1 -i) (cap -i)) (by simp[Act.eval,Act.put]) (by simp[Act.eval,Act.put]) (hcp1 3 (cap -(i+1)) (cap -i)) ?_)
 go_wp2_with (at_builtin;refine wpList_copy_known _ rfl _ _ 158 158 rfl _ _ rfl rfl (hcp2 _ _) ?_);go_ret;exact⟨rfl,HF.out⟩
set_option maxRecDepth 20000 in
set_option maxHeartbeats 4000000 in
theorem insertKey_grow (g cap i:Nat) (ss:List ByteArray) (x:ByteArray) (vb:Nat) (w:World) (base:Nat) (ho:w.ownsRow base 162 8 (.slice (some ⟨g,0,none⟩) ss.length cap) ss.length (rowC kCells ss)) (hl:ss.length<=600) (hi:i<ss.length) (hroom:cap<ss.length+1) (hbase:base<=w.heap.size) (hv:w.heap[vb]?=some (.cells (kCells x).toArray 162 (0,0))):
 Calls Tryz.prog 198 #[.slice (some ⟨g,0,none⟩) ss.length cap,.int .i64 i,.slice (some ⟨vb,0,none⟩) 1 1] w fun e w'=>∃G,e=.returned (.slice (some ⟨w.heap.size,0,none⟩) (ss.length+1) G)/\w'.ownsRow base 162 8 (.slice (some ⟨w.heap.size,0,none⟩) (ss.length+1) G) (ss.length+1) (rowC kCells (ss.take i++[x]++ss.drop i))/\w.grownBy w' none:=by
 obtain⟨i0,hinf,hz0,hz1,hz2⟩:=insertKey_info;have hgw:g<w.heap.size:=(own_lt ho rfl).2;have hvw:vb<w.heap.size:=(Array.getElem?_eq_some_iff.1 hv).1;have hnc:ss.length<=cap:=by
  rcases ho.2 with⟨e,_⟩|⟨g',cap',cur,e,hb,hg,h1,h2,h3,h4⟩
  ·cases e
  ·cases e;exact h1
 have hxs:(rowC kCells ss).length=ss.length *8:=row_len kC_len ss;have hvl:(rowC kCells [x]).length=8:=by rw[row_len kC_len];rfl
 have hdl:((rowC kCells ss).drop (i *8)).length=(ss.length -i) *8:=by rw[List.length_drop,hxs];omega
 have htl:((rowC kCells ss).take (i *8)).length=i *8:=by rw[List.length_take,hxs];omega
 have hold:(Builtin.firstCells i0.size i (.slice (some ⟨g,0,none⟩) i cap)).run Tryz.prog w.drew=.ok ((rowC kCells ss).take (i *8)).toArray w.drew:=by
  rw[hz1];exact run_firstCells_some w.drew 8 i ⟨g,0,none⟩ i cap ((rowC kCells ss).take (i *8)) htl (fun j v hj=>by
   rw[Go.WideShapes.add_plain,Nat.zero_add];rw[List.getElem?_take] at hj;split at hj
   ·exact(ho.cellAt _ (by omega)).trans hj
   ·cases hj)
 obtain⟨G,hG⟩:∃G,G=grownCap w (ss.length+1) cap 162:=⟨_,rfl⟩;obtain⟨zc,hzc,hzcs⟩:∃zc:Array Value,zc=Value.cells (.agg zero8)/\zc.size=8:=⟨_,rfl,by kernel_rfl⟩;obtain⟨zs,hzs⟩:∃zs:List Value,zs=(Builtin.zeroCells zc (ss.length+1 -i)).toList++(Builtin.zeroCells zc (G -(ss.length+1))).toList:=⟨_,rfl⟩;have hGn:ss.length+1<=G:=by rw[hG];exact grownCap_ge w _ _ _
 have hG63:G<=maxLen:=by
  rw[hG];exact grownCap_le_maxLen w (ss.length+1) cap 162 (by unfold maxLen;omega)
 have hzl:i *8+zs.length=G *8:=by
  rw[hzs];simp[Builtin.zeroCells,hzcs];omega
 have hrz:∀ty,(Builtin.append_ #[158,3] ty #[.slice (some ⟨g,0,none⟩) i cap,.int .i64 ((ss.length:Int)+1 -(i:Int))]).run Tryz.prog w=
  .ok (.slice (some ⟨w.heap.size,0,none⟩) (ss.length+1) G) (w.drew.alloc (.cells ((rowC kCells ss).take (i *8)++zs).toArray 162)):=fun ty=>by
  have hik:i+(ss.length+1 -i)=ss.length+1:=by omega
  have h:=Lib.run_append_grow_zeros (P:=Tryz.prog) w 158 3 ty 162 i0 _ .i64 .i64 Tryz.underlying158 Tryz.underlying3 hinf hz0 (some ⟨g,0,none⟩) i cap ((rowC kCells ss).take (i *8)) hold (ss.length+1 -i) (by omega) (by rw[hz1];omega) (by omega) (by omega) (by rw[hz2];omega) (by rw[hz2,hik];exact growslice_fits hroom (by omega));rw[hik,←hG,←hzc] at h
  rw[show(ss.length:Int)+1 -(i:Int)=((ss.length+1 -i:Nat):Int) by omega,h,hzs];have e:((rowC kCells ss).take (i *8)).toArray++Builtin.zeroCells zc (ss.length+1 -i)++Builtin.zeroCells zc (G -(ss.length+1))=((rowC kCells ss).take (i *8)++((Builtin.zeroCells zc (ss.length+1 -i)).toList++(Builtin.zeroCells zc (G -(ss.length+1))).toList)).toArray:=by
   apply Array.toList_inj.1;simp
  rw[e]
 obtain⟨W1,hW1⟩:∃W1,W1=w.drew.alloc (.cells ((rowC kCells ss).take (i *8)++zs).toArray 162):=⟨_,rfl⟩;have hrow:W1.heap[w.heap.size]?=some (.cells ((rowC kCells ss).take (i *8)++zs).toArray 162 (0,0)):=by rw[hW1];exact heap_alloc_new w.drew _
 have hN:∀j,j<G *8->(W1.cell? ⟨w.heap.size,j,none⟩).isSome=true:=fun j hj=>by
  simp only[World.cell?,hrow];rw[Array.getElem?_eq_getElem (by simp[htl];omega)];rfl
 have hNf:∀j,W1.frozen? ⟨w.heap.size,j,none⟩=false:=fun j=>by simp[World.frozen?,hrow]
 have hO:∀b,b<w.heap.size->W1.heap[b]?=w.heap[b]?:=fun b hb=>by rw[hW1];exact alloc_same w.drew _ hb
 have hcpA:∀ty dc,(Builtin.copy_ #[158,158] ty #[.slice (some ⟨w.heap.size,i *8,none⟩) (ss.length+1 -i) dc,.slice (some ⟨vb,0,none⟩) 1 1]).run Tryz.prog W1=.ok (goInt (Nat.min 1 (ss.length+1 -i))) (W1.setCells w.heap.size (i *8) (rowC kCells [x])):=fun ty dc=>
  run_copy_wide W1 158 158 ty 162 i0 8 w.heap.size (i *8) (ss.length+1 -i) dc ⟨vb,0,none⟩ 1 1 (rowC kCells [x]) Tryz.underlying158 hinf hz1 (by rw[hvl,show Nat.min 1 (ss.length+1 -i)=1 from Nat.min_eq_left (by omega),Nat.one_mul])
   (fun j v hj=>by
     rw[Go.WideShapes.add_plain,Nat.zero_add,World.cell?_of_block (hO vb hvw)];exact insertKey_v hv j v hj)
   (fun j hj=>hN _ (by omega)) (fun j _=>hNf _) (cells8_one _)
 obtain⟨W2,hW2⟩:∃W2,W2=(W1.setCells w.heap.size (i *8) (rowC kCells [x])).drew:=⟨_,rfl⟩
 have hcpB:∀ty dc sc,(Builtin.copy_ #[158,158] ty #[.slice (some ⟨w.heap.size,(i+1) *8,none⟩) (ss.length+1 -(i+1)) dc,.slice (some ⟨g,i *8,none⟩) (ss.length -i) sc]).run Tryz.prog W2=.ok (goInt (Nat.min (ss.length -i) (ss.length+1 -(i+1)))) (W2.setCells w.heap.size ((i+1) *8) ((rowC kCells ss).drop (i *8))):=fun ty dc sc=>
  run_copy_wide W2 158 158 ty 162 i0 8 w.heap.size ((i+1) *8) (ss.length+1 -(i+1)) dc ⟨g,i *8,none⟩ (ss.length -i) sc ((rowC kCells ss).drop (i *8)) Tryz.underlying158 hinf hz1 (by rw[hdl];congr 1;show _=min _ _;omega)
   (fun j v hj=>by
     rw[List.getElem?_drop] at hj;have:=(List.getElem?_eq_some_iff.1 hj).1;rw[Go.WideShapes.add_plain,hW2,drew_cellC,World.cell?_setCells_out _ _ _ _ _ (fun h _=>absurd h (Nat.ne_of_lt hgw)),World.cell?_of_block (hO g hgw)];exact(ho.cellAt _ (by omega)).trans hj)
   (fun j hj=>by rw[hW2,drew_cellC];exact some_setC w.heap.size (rowC kCells [x]) (i *8) W1 (fun t ht=>hN _ (by omega)) ((i+1) *8+j) (hN _ (by omega))) (fun j _=>by rw[hW2,drew_frozenC,World.frozen?_setCells];exact hNf _) (fun v hv=>cells8_one _ v (List.mem_of_mem_drop hv))
 have hfin:(W2.setCells w.heap.size ((i+1) *8) ((rowC kCells ss).drop (i *8))).ownsRow base 162 8 (.slice (some ⟨w.heap.size,0,none⟩) (ss.length+1) G) (ss.length+1) (rowC kCells (ss.take i++[x]++ss.drop i))/\w.grownBy (W2.setCells w.heap.size ((i+1) *8) ((rowC kCells ss).drop (i *8))) none:=by
  refine⟨?_,?_⟩
  ·rw[row_append,row_append,←row_take kC_len ss i (by omega),←row_drop kC_len ss i (by omega),hW2,←drew_setC]
   exact own_below (own_grow (w:=W1) hxs (by omega) hvl hbase hrow hzl hGn hG63) ((Below.refl _ _).drew)
  ·have s1:W1.heap.size=w.heap.size+1:=by rw[hW1];simp
   have e1:w.grownBy W1 none:=by rw[hW1];exact⟨rfl,rfl,rfl,by simp,fun b hb _=>alloc_same w.drew _ hb⟩
   have e2:W1.grownBy (W2.setCells w.heap.size ((i+1) *8) ((rowC kCells ss).drop (i *8))) (some w.heap.size):=by
    rw[hW2];exact grown_trans (grown_trans (grown_setC w.heap.size (rowC kCells [x]) (i *8) W1) (grown_drewC _ _)) (grown_setC w.heap.size ((rowC kCells ss).drop (i *8)) ((i+1) *8) _)
   exact⟨e2.os.trans e1.os,e2.tape.trans e1.tape,e2.output.trans e1.output,Nat.le_trans e1.size e2.size,fun b hb _=>(e2.block b (by omega) (by simp;omega)).trans (e1.block b hb (by simp))⟩
 have HF:Hid _:=hfin;have hG63':G<=9223372036854775807:=by unfold maxLen at hG63;omega
 have hq1:¬((i:Int)=(ss.length:Int)):=by omega
 have hq2:(cap:Int)<(ss.length:Int)+1:=by omega
 have hp0:(0:Int)<=(i:Int)+1:=by omega
 have hp1:(i:Int)+1<=(ss.length:Int)+1:=by omega
 have hp2:((i:Int)+1).toNat=i+1:=by omega
 have hb2:¬(cap=i):=by omega
 have hb3:¬(G=i):=by omega
 have hb4:¬(G=i+1):=by omega
 have hb5:i<=ss.length+1:=by omega
 have hb7:(i:Int)<=(ss.length:Int)+1:=by omega
 have hb8:(i:Int)<=(ss.length:Int):=by omega
 have mixed:Tryz.prog.follows .mixedOrders=true:=by kernel_rfl
 have hb6:i<=cap:=by omega
 have hw1:IntKind.i64.wrap ((i:Int)+1)=(i:Int)+1:=by rw[IntKind.wrap_i64];omega
 have hw2:IntKind.i64.wrap ((ss.length:Int)+1)=(ss.length:Int)+1:=by rw[IntKind.wrap_i64];omega
 have hw3:IntKind.i64.wrap ((ss.length:Int)+1 -(i:Int))=(ss.length:Int)+1 -(i:Int):=by rw[IntKind.wrap_i64];omega
 rw[←hW1] at hrz;clear ho hfin hv hinf hz0 hz2 hxs hvl hdl htl hold hG hzs hzl hrow hN hNf hO hW1 hgw hvw;go_enter Tryz.func198,Tryz.ntmps198;go_wp2_with (first
  |(at_builtin;refine Lib.wpList_append_run _ rfl _ _ _ _ rfl _ _ rfl rfl _ _ (hrz _) ?_)
  |(at_builtin;refine wpList_copy_known _ rfl _ _ 158 158 rfl _ _ rfl rfl (hcpA _ _) ?_))
 go_region_law_o (refine step_copy_known rfl _ _ 158 158 rfl (.slice (some ⟨w.heap.size,(i+1) *8,none⟩) (ss.length+1 -(i+1)) (G -(i+1))) (.slice (some ⟨g,i *8,none⟩) (ss.length -i) (cap -i)) (by simp[Act.eval,Act.put]) (by simp[Act.eval,Act.put]) (by rw[←hW2];exact hcpB 3 (G -(i+1)) (cap -i)) ?_)
 go_wp2;go_ret;rw[←hW2];exact⟨G,rfl,HF.out⟩
theorem insertKey_any (P:Value) (i:Nat) (ss:List ByteArray) (x:ByteArray) (vb:Nat) (w:World) (base:Nat) (ho:w.ownsRow base 162 8 P ss.length (rowC kCells ss)) (hl:ss.length<=600) (hi:i<=ss.length) (hbase:base<=w.heap.size) (hvb:P.ownBlock≠some vb) (hv:w.heap[vb]?=some (.cells (kCells x).toArray 162 (0,0))):
 Calls Tryz.prog 198 #[P,.int .i64 i,.slice (some ⟨vb,0,none⟩) 1 1] w fun e w'=>∃P',e=.returned P'/\w'.ownsRow base 162 8 P' (ss.length+1) (rowC kCells (ss.take i++[x]++ss.drop i))/\w.grownBy w' P.ownBlock/\(P'.ownBlock=P.ownBlock∨P'.ownBlock=some w.heap.size):=by
 rcases Nat.lt_or_ge i ss.length with h|h
 ·rcases ho.2 with⟨e,hn⟩|⟨g,cap,cur,e,hb,hg,h1,h2,h3,h4⟩
  ·omega
  ·subst e
   rcases Nat.lt_or_ge cap (ss.length+1) with hc|hc
   ·refine Calls.mono (insertKey_grow g cap i ss x vb w base ho hl h hc hbase hv) ?_
    rintro e w' ⟨G,rfl,q1,q2⟩;exact⟨_,rfl,q1,⟨q2.os,q2.tape,q2.output,q2.size,fun b hb _=>q2.block b hb (by simp)⟩,.inr rfl⟩
   ·refine Calls.mono (insertKey_shift g cap i ss x vb w base ho hl h hc (fun e=>hvb (by rw[e];rfl)) hv) ?_
    rintro e w' ⟨rfl,q1,q2⟩;exact⟨_,rfl,q1,q2,.inl rfl⟩
 ·obtain rfl:i=ss.length:=by omega
  rw[List.take_length,List.drop_length,List.append_nil];exact insertKey_end P ss x vb w base ho hl hbase hv
end Go.Proofs.YthkmpihfhkmaoaaGreatDoor
namespace Go.Proofs.YthkmpihfhkmaoaaGreatDoor
open Go.ChangeShapes Go.WideShapes Go.ChangeAt Go.RowKit
set_option maxHeartbeats 1000000 in
theorem searchKey_nil (a:Option Addr) (cap:Nat) (s:ByteArray) (w:World):
 Calls Tryz.prog 208 #[.slice a 0 cap,keyV s,.func (.func 209) #[] #[]] w fun e w'=>e=.returned (.tuple #[.int .i64 0,.bool false])/\Below w.heap.size w w':=by
 unfold keyV keyA;go_enter Tryz.func208,Tryz.ntmps208;go_wp2
 go_loopw [9,10] (fun i j wr=>i=.int .i64 0/\j=.int .i64 0/\Below w.heap.size w wr) (fun _ _ _=>0)
 case atStart=>exact⟨rfl,rfl,(Below.refl _ _).alloc (Nat.le_refl _) _⟩
 case round=>
  obtain⟨rfl,rfl,hb⟩:=hrel;have hne:=Cls.ne wr;go_wp2;refine region_cls_lit (by kernel_rfl) (by kernel_rfl) ?_
  repeat (go_big_quiet_step (fail))
  refine wpQuiet_nil ?_;intro m;go_wp2
  go_ret2
  exact⟨by first|rfl|simp[Act.put],hb.trans (m.h.mono hb.size)⟩
theorem searchK (base:Nat) (O:Value) (ss:List ByteArray) (s:ByteArray) (w:World) (ho:w.ownsRow base 162 8 O ss.length (cells8 ss)) (hl:ss.length<=600) (hs8:s.size<=8) (hsz:∀x∈ss,x.size=s.size) (hsort:ss.Pairwise (fun a b=>less a b=true)):
 Calls Tryz.prog 208 #[O,keyV s,.func (.func 209) #[] #[]] w fun e w'=>∃i:Nat,e=.returned (.tuple #[.int .i64 i,.bool (decide (ss[i]?=some s))])/\PlaceAt ss s i/\Below w.heap.size w w':=by
 rcases ho.2 with⟨rfl,hz⟩|⟨g,cap,cur,rfl,_⟩
 ·have:ss=[]:=List.eq_nil_of_length_eq_zero hz
  subst this;refine(searchKey_nil none 0 s w).mono ?_;rintro e w' ⟨rfl,hb⟩;exact⟨0,by simp,⟨Nat.le_refl _,fun j x h=>by omega,fun j x _ hx=>by simp at hx⟩,hb⟩
 ·exact search_any g cap ss s w base ho hl hs8 hsz hsort
set_option maxRecDepth 20000 in
set_option maxHeartbeats 4000000 in
theorem placeV (base d m:Nat) (oa:Option Addr) (oc:Nat) (P L:Value) (wd now given births:Int) (ks:List Kd) (s:ByteArray) (w:World) (hbox:CellsAt w d [.int .i64 wd,.map (some m),.int .i64 now,.int .i64 given,.int .i64 births,.slice oa ks.length oc,P,L]) (hord:w.ownsRow base 162 8 (.slice oa ks.length oc) ks.length (cells8 (ks.map (·.sum))))
 (hk:ks.length<=600) (hs8:s.size<=8) (hsz:∀x∈ks,x.sum.size=s.size) (hsort:(ks.map (·.sum)).Pairwise (fun a b=>less a b=true)):
 Calls Tryz.prog 181 #[.pointer (some ⟨d,0,none⟩),keyV s] w fun e w'=>∃i:Nat,e=.returned (.tuple #[.int .i64 i,.bool (decide ((ks.map (·.sum))[i]?=some s))])/\PlaceAt (ks.map (·.sum)) s i/\Below w.heap.size w w':=by
 obtain⟨W,hW⟩:∃W,W=w.alloc (.cells #[.int .u8 (kB s 0),.int .u8 (kB s 1),.int .u8 (kB s 2),.int .u8 (kB s 3),.int .u8 (kB s 4),.int .u8 (kB s 5),.int .u8 (kB s 6),.int .u8 (kB s 7)] 162):=⟨_,rfl⟩;have hB:Below w.heap.size w W:=by rw[hW];exact(Below.refl _ _).alloc (Nat.le_refl _) _
 have cb:CellsAt W w.heap.size (kCells s):=by rw[hW];exact CellsAt.new w (kCells s) 162
 have hoW:W.drew.ownsRow base 162 8 (.slice oa ks.length oc) (ks.map (·.sum)).length (cells8 (ks.map (·.sum))):=by
  rw[List.length_map];exact own_below hord hB.drew
 have HS:Hid _:=searchK base (.slice oa ks.length oc) (ks.map (·.sum)) s W.drew hoW (by rw[List.length_map];exact hk) hs8 (fun x hx=>by obtain⟨y,hy,rfl⟩:=List.mem_map.1 hx;exact hsz y hy) hsort
 have S0:W.drew.cell? ⟨d,5,none⟩=some (.slice oa ks.length oc)/\(W.drew.cell? ⟨w.heap.size,0,none⟩=some (.int .u8 (kB s 0))/\W.drew.cell? ⟨w.heap.size,1,none⟩=some (.int .u8 (kB s 1))/\W.drew.cell? ⟨w.heap.size,2,none⟩=some (.int .u8 (kB s 2))/\W.drew.cell? ⟨w.heap.size,3,none⟩=some (.int .u8 (kB s 3))/\W.drew.cell? ⟨w.heap.size,4,none⟩=some (.int .u8 (kB s 4))/\W.drew.cell? ⟨w.heap.size,5,none⟩=some (.int .u8 (kB s 5))/\W.drew.cell? ⟨w.heap.size,6,none⟩=some (.int .u8 (kB s 6))/\W.drew.cell? ⟨w.heap.size,7,none⟩=some (.int .u8 (kB s 7))):=⟨(CellsAt.below hbox hB 5 _ rfl).1,box8 (w:=W.drew) cb⟩
 have HW:Hid _:=hW;clear hW cb hoW hbox hord;unfold keyV keyA at *
 go_enter Tryz.func181,Tryz.ntmps181;go_upto_region 1 with fail;rw[←HW.out];clear HW;obtain⟨s5,s60,s61,s62,s63,s64,s65,s66,s67⟩:=S0;go_region_with (go_at_call 208;refine Calls.mono HS.out ?_;rintro e w1 ⟨i,rfl,hp,hb⟩)
 all_goals
  have HF:Hid _:=And.intro hp (hB.trans ((below_undrew hb).mono hB.size));clear hp hb s5 s60 s61 s62 s63 s64 s65 s66 s67 HS;go_wp2
  go_ret2
  exact⟨i,by first|rfl|simp[Act.put],HF.out.1,HF.out.2⟩
def insK (ks:List Kd) (x:Kd):List Kd:=ks.filter (fun k=>less k.sum x.sum)++[x]++ks.filter (fun k=> !(less k.sum x.sum))
theorem insK_mem {ks:List Kd} {x u:Kd}:u∈insK ks x↔u∈ks++[x]:=by
 unfold insK;simp only[List.mem_append,List.mem_filter,List.mem_singleton];cases less u.sum x.sum<;>simp
 ·constructor
  ·rintro(h|h)
   ·exact .inr h
   ·exact .inl h
  ·rintro(h|h)
   ·exact .inr h
   ·exact .inl h
theorem insK_len (ks:List Kd) (x:Kd):(insK ks x).length=ks.length+1:=by
 unfold insK;rw[List.length_append,List.length_append];have:∀l:List Kd,(l.filter (fun k=>less k.sum x.sum)).length+(l.filter (fun k=> !(less k.sum x.sum))).length=l.length:=by
  intro l;induction l with
  |nil=>rfl
  |cons y l ih=>cases h:less y.sum x.sum<;>simp[h]<;>omega
 have:=this ks;simp;omega
theorem insK_place {ks:List Kd} {x:Kd} {i:Nat} (h:PlaceAt (ks.map (·.sum)) x.sum i):insK ks x=ks.take i++[x]++ks.drop i:=by
 have lo:∀k∈ks.take i,less k.sum x.sum=true:=fun k hk=>by
  obtain⟨j,hj⟩:=List.getElem?_of_mem hk;have hjl:=(List.getElem?_eq_some_iff.1 hj).1;rw[List.length_take] at hjl;rw[List.getElem?_take_of_lt (by omega)] at hj;exact h.lo j k.sum (by omega) (by rw[List.getElem?_map,hj];rfl)
 have hi:∀k∈ks.drop i,less k.sum x.sum=false:=fun k hk=>by
  obtain⟨j,hj⟩:=List.getElem?_of_mem hk;rw[List.getElem?_drop] at hj;exact h.hi (i+j) k.sum (by omega) (by rw[List.getElem?_map,hj];rfl)
 have e:ks=ks.take i++ks.drop i:=(List.take_append_drop i ks).symm;unfold insK
 conv=>lhs;rw[e]
 rw[List.filter_append,List.filter_append,List.filter_eq_self.2 lo,List.filter_eq_nil_iff.2 (fun k hk=>by rw[hi k hk];simp),List.filter_eq_nil_iff.2 (fun k hk=>by rw[lo k hk];simp),List.filter_eq_self.2 (fun k hk=>by rw[hi k hk];rfl)];simp
theorem Holds.same {W:World} {B:Nat} {wd:Int} {ks ks':List Kd} {f:Lit->Option Value} (h:Holds W B wd ks f) (hm:∀u,u∈ks'↔u∈ks):Holds W B wd ks' f:=by
 intro s hs;rcases h s hs with⟨h1,h2⟩|⟨u,ra,rc,h1,h2⟩
 ·exact .inl ⟨h1,fun⟨k,hk,e⟩=>h2 ⟨k,(hm k).1 hk,e⟩⟩
 ·exact .inr ⟨u,ra,rc,(hm u).2 h1,h2⟩
theorem KMap.less {w:World} {K:TypeId} {b n n':Nat} {f f':Lit->Option Value} (h:KMap w K b n f) (h':KMap w K b n' f'):KMap w K b n' f:=by
 obtain⟨D,⟨es,cl,hb,hf,_,hD⟩,h2⟩:=h;obtain⟨D',⟨es',cl',hb',hf',hs',_⟩,_⟩:=h';rw[hb] at hb';cases hb';exact⟨D,⟨es,cl,hb,hf,hs',hD⟩,h2⟩
end Go.Proofs.YthkmpihfhkmaoaaGreatDoor
