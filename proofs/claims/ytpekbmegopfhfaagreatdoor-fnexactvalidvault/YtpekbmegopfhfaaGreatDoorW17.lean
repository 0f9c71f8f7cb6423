import Derived.Test.YtpekbmegopfhfaaGreatDoorW16
import Derived.Test.YtpekbmegopfhfaaGreatDoorW02
import Derived.Test.YtpekbmegopfhfaaGreatDoorW14
namespace Go.Proofs.YtpekbmegopfhfaaGreatDoor
open Go.ChangeShapes Go.WideShapes Go.ChangeAt Go.RowKit
set_option maxRecDepth 20000 in
set_option maxHeartbeats 4000000 in
theorem pin_new (base d m:Nat) (O P L:Value) (wd now given births:Int) (ks:List Kd) (ps:List Pd) (ls:List Ld) (n s:ByteArray) (w:World) (h:DU w base d m O P L wd now given births ks ps ls) (hsz:∀k∈ks,(k.sum.size:Int)=wd) (hths:There ks s) (hl:ps.length<100) (hsort:ps.Pairwise (fun a b=>less a.name b.name=true)) (hth:¬∃x∈ps,x.name=n):
 Calls Tryz.prog 170 #[.pointer (some ⟨d,0,none⟩),.string n,.string s] w fun e w'=>e=.returned (.tuple #[])/\∃P',DU w' base d m O P' L wd now given births ks (pinP ps n s) ls/\Tn (d::P.ownBlock.toList) w w':=by
 obtain ⟨pa,pcp,hLe⟩:=own_val h.dr.pin
 subst hLe
 have HN:Hid _:=need_yes base d m O (.slice pa ps.length pcp) L wd now given births ks ps ls s w h.dr hsz hths
 have HD:Hid (DU w base d m O (.slice pa ps.length pcp) L wd now given births ks ps ls):=h
 have HSo:Hid (ps.Pairwise (fun a b=>less a.name b.name=true)):=hsort
 have HTh:Hid (¬∃x∈ps,x.name=n):=hth
 have hll:((ps.length:Int)==100)=false:=by simp;omega
 clear h hsort hth hsz hths
 go_enter Tryz.func170,Tryz.ntmps170
 go_wp2_with fail
 refine Calls.mono HN.out ?_
 rintro e w1 ⟨rfl,hb1⟩
 have hD1:=HD.out.below hb1
 have HS:Hid _:=pinPlaceV base d m O (.slice pa ps.length pcp) L wd now given births ks ps ls n w1 hD1 (by omega) HSo.out
 clear HN
 go_wp2_with fail
 refine Calls.mono HS.out ?_
 rintro e w2 ⟨i,rfl,hp1,hb2⟩
 have hdec:decide (∃x,ps[i]?=some x/\x.name=n)=false:=by
  rw [decide_eq_false_iff_not]
  rintro ⟨x,hx,hn⟩
  exact HTh.out ⟨x,List.mem_of_getElem? hx,hn⟩
 have HE:Hid (pinP ps n s=ps.take i++[⟨n,s⟩]++ps.drop i):=pinP_insert hp1 HTh.out
 have hD2:=hD1.below hb2
 have HD2:Hid (DU w2 base d m O (.slice pa ps.length pcp) L wd now given births ks ps ls):=hD2
 have HB:Hid (Below w.heap.size w w2):=hb1.trans (hb2.mono hb1.size)
 obtain ⟨c6,_⟩:=hD2.dr.box 6 _ rfl
 obtain ⟨A,hA⟩:∃A,A=w2.alloc (.cells #[.string n,.string s] 134):=⟨_,rfl⟩
 have bA:Below w2.heap.size w2 A:=by rw [hA];exact (Below.refl _ _).alloc (Nat.le_refl _) _
 have hDA:=hD2.below bA
 have HDA:Hid (DU A base d m O (.slice pa ps.length pcp) L wd now given births ks ps ls):=hDA
 have HBA:Hid (Below w2.heap.size w2 A):=bA
 have hil:=hp1.le
 have hcall:=insertPin_any (.slice pa ps.length pcp) i ps ⟨n,s⟩ w2.heap.size A base hDA.dr.pin (by omega) hil hDA.lo (fun e=>Nat.lt_irrefl _ (own_lt hD2.dr.pin e).2) (by rw [hA];exact heap_alloc_new w2 _)
 have HI:Hid _:=hcall
 have HA:Hid _:=hA
 obtain ⟨e6,_⟩:=hDA.dr.box 6 _ rfl
 rw [hdec]
 clear hdec hD1 hD2 hb1 hb2 HD HS HTh HSo hp1 hcall hDA bA hA
 go_wp2_with fail
 rw [←HA.out]
 refine Calls.mono HI.out ?_
 rintro e w3 ⟨P',rfl,ho3,hg3,hk3⟩
 obtain ⟨pa',pc',hPe⟩:=own_val ho3
 subst hPe
 have hne:∀b,(Value.slice pa ps.length pcp).ownBlock=some b->b≠d:=fun b hb=>((ap_parts HDA.out.dr.ap).2.2.1 b hb).1
 have hne':∀b,(Value.slice pa' (ps.length+1) pc').ownBlock=some b->b≠d:=fun b hb=>by
  rcases hk3 with hk3|hk3
  ·exact hne b (hk3▸hb)
  ·rw [hk3] at hb
   have:=HDA.out.dr.box.lt
   cases hb
   omega
 have hbox3:CellsAt w3 d [.int .i64 wd,.map (some m),.int .i64 now,.int .i64 given,.int .i64 births,O,.slice pa ps.length pcp,L]:=CellsAt.same HDA.out.dr.box (hg3.block d HDA.out.dr.box.lt (fun e=>hne d e.symm rfl))
 obtain ⟨f6,k6⟩:=hbox3 6 _ rfl
 have hK:∃P'',DU (w3.setCell ⟨d,6,none⟩ (.slice pa' (ps.length+1) pc')) base d m O P'' L wd now given births ks (pinP ps n s) ls/\Tn (d::(Value.slice pa ps.length pcp).ownBlock.toList) w (w3.setCell ⟨d,6,none⟩ (.slice pa' (ps.length+1) pc')):=by
  have t1:Tn (d::(Value.slice pa ps.length pcp).ownBlock.toList) A (w3.setCell ⟨d,6,none⟩ (.slice pa' (ps.length+1) pc')):=
   ((tn_grown hg3).mono (fun b hb=>List.mem_cons_of_mem _ hb)).trans ((tn1 w3 d 6 _).mono (by simp))
  refine ⟨_,HDA.out.newP t1 (hbox3.set 6 _) ?_ ?_,((Tn.of HB.out).trans (Tn.of HBA.out)).trans t1⟩
  ·have hlen:(pinP ps n s).length=ps.length+1:=by rw [HE.out];simp;omega
   rw [hlen,HE.out]
   exact own_set ho3 hne' 6 _
  ·rcases hk3 with hk3|hk3
   ·exact .inl hk3
   ·exact .inr ⟨_,hk3,Nat.le_refl _⟩
 have HK:Hid _:=hK
 clear hK ho3 hg3 hbox3 e6 hk3 hne hne'
 go_wp2
 go_end0
 exact ⟨rfl,HK.out⟩
end Go.Proofs.YtpekbmegopfhfaaGreatDoor
namespace Go.Proofs.YtpekbmegopfhfaaGreatDoor
open Go.ChangeShapes Go.WideShapes Go.ChangeAt Go.RowKit
theorem ap_newO {d m n:Nat} {O P L O':Option Nat} (h:(d::m::(O.toList++(P.toList++L.toList))).Nodup) (hlt:∀b∈d::m::(O.toList++(P.toList++L.toList)),b<n) (hL:O'=O∨∃g,O'=some g/\n<=g):(d::m::(O'.toList++(P.toList++L.toList))).Nodup:=by
 rcases hL with rfl|⟨g,rfl,hg⟩
 ·exact h
 ·cases O<;>cases P<;>cases L<;>simp_all<;>grind
theorem DU.newK {w w':World} {base d m:Nat} {O P L:Value} {wd now given births:Int} {ks:List Kd} {ps:List Pd} {ls:List Ld} (h:DU w base d m O P L wd now given births ks ps ls) (ht:Tn (d::m::O.ownBlock.toList) w w') {O':Value} {ks':List Kd} {births':Int} (hbox:CellsAt w' d [.int .i64 wd,.map (some m),.int .i64 now,.int .i64 given,.int .i64 births',O',P,L]) (hu:∃n f,n<=1000000+births'.toNat/\KMap w' 139 m n f/\HoldsV w' base (vB d m O' P L) wd ks' f) (ho:w'.ownsRow base 139 8 O' ks'.length (cells8 (ks'.map (·.sum)))) (hb:O'.ownBlock=O.ownBlock∨∃g,O'.ownBlock=some g/\w.heap.size<=g):DU w' base d m O' P L wd now given births' ks' ps ls:=by
 obtain ⟨a1,a2,a3,a4⟩:=ap_parts h.dr.ap
 refine ⟨⟨hbox,hu,ho,own_same h.dr.pin (fun g hg=>ht.block g (own_lt h.dr.pin hg).2 (fun e=> ?_)),own_same h.dr.lea (fun g hg=>ht.block g (own_lt h.dr.lea hg).2 (fun e=> ?_)),h.dr.bd,h.dr.bm,ap_newO h.dr.ap h.dr.lts hb⟩⟩
 ·rcases List.mem_cons.1 e with e|e
  ·exact (a3 g hg).1 e
  ·rcases List.mem_cons.1 e with e|e
   ·exact (a3 g hg).2.1 e
   ·exact (a2 g (by simpa using e)).2.2.1 hg
 ·rcases List.mem_cons.1 e with e|e
  ·exact (a4 g hg).1 e
  ·rcases List.mem_cons.1 e with e|e
   ·exact (a4 g hg).2 e
   ·exact (a2 g (by simpa using e)).2.2.2 hg
theorem cells8_map_ins {ks:List Kd} {x:Kd} {i:Nat} (h:PlaceAt (ks.map (·.sum)) x.sum i):(ks.map (·.sum)).take i++[x.sum]++(ks.map (·.sum)).drop i=(insK ks x).map (·.sum):=by
 rw [insK_place h]
 simp [List.map_take,List.map_drop]
theorem HoldsV.snoc {w:World} {base:Nat} {V:List Nat} {wd:Int} {ks:List Kd} {f:Lit->Option Value} (h:HoldsV w base V wd ks f) {x:Kd} {ra:Option Addr} {rc:Nat} (hx:(x.sum.size:Int)=wd) (h8:wd<=8) (hr:RefV w base V ra x.refs):HoldsV w base V wd (ks++[x]) (upd f (keyL x.sum) (keptV x ra rc)):=by
 intro s hs
 by_cases he:keyL s=keyL x.sum
 ·have:s=x.sum:=key_inj he (by omega) (by omega)
  subst this
  exact .inr ⟨x,ra,rc,by simp,rfl,upd_same _ _ _,hr⟩
 ·rw [upd_other _ _ he]
  have hne:x.sum≠s:=fun e=>he (by rw [e])
  rcases h s hs with ⟨h1,h2⟩|⟨u,ra',rc',h1,h2,h3,h4⟩
  ·refine .inl ⟨h1,fun ⟨u,hu,e⟩=> ?_⟩
   rcases List.mem_append.1 hu with hu|hu
   ·exact h2 ⟨u,hu,e⟩
   ·simp at hu;subst hu;exact hne e
  ·exact .inr ⟨u,ra',rc',by simp [h1],h2,h3,h4⟩
theorem HoldsV.same {w:World} {base:Nat} {V:List Nat} {wd:Int} {ks ks':List Kd} {f:Lit->Option Value} (h:HoldsV w base V wd ks f) (hm:∀u,u∈ks'↔u∈ks):HoldsV w base V wd ks' f:=by
 intro s hs
 rcases h s hs with ⟨h1,h2⟩|⟨u,ra,rc,h1,h2⟩
 ·exact .inl ⟨h1,fun ⟨k,hk,e⟩=>h2 ⟨k,(hm k).1 hk,e⟩⟩
 ·exact .inr ⟨u,ra,rc,(hm u).2 h1,h2⟩
def HUV (w:World) (base:Nat) (V:List Nat) (m:Nat) (wd births:Int) (ks:List Kd):Prop:=∃n f,n<=1000000+births.toNat/\KMap w 139 m n f/\HoldsV w base V wd ks f
theorem HUV.turn {w w':World} {base m:Nat} {U V:List Nat} {wd births:Int} {ks:List Kd} (h:HUV w base V m wd births ks) (ht:Tn U w w') (hU:∀b∈U,b∈V) (hm:m∉U):HUV w' base V m wd births ks:=by
 obtain ⟨n,f,h1,h2,h3⟩:=h
 exact ⟨n,f,h1,KMap.same h2 (ht.block m h2.lt hm),h3.move ht (fun b hb=> .inl (hU b hb)) (fun b hb=> .inl hb)⟩
set_option maxRecDepth 20000 in
set_option maxHeartbeats 4000000 in
theorem lay_yes (base d m:Nat) (O P L:Value) (wd now given births:Int) (ks:List Kd) (ps:List Pd) (ls:List Ld) (s text:ByteArray) (refs:List ByteArray) (ra:Option Addr) (rc:Nat) (w:World) (h:DU w base d m O P L wd now given births ks ps ls) (hok:KsOk wd ks) (hsw:(s.size:Int)=wd) (hl:ks.length<600) (hb0:0<=births) (hb1:births<1000000000) (hr:RefV w base (vB d m O P L) ra refs):
 Calls Tryz.prog 200 #[.pointer (some ⟨d,0,none⟩),.string s,.agg #[.string text,.slice ra refs.length rc]] w fun e w'=>e=.returned (.tuple #[])/\(∃O',DU w' base d m O' P L wd now given (births+1) (insK ks ⟨s,births+1,text,refs⟩) ps ls/\(O'.ownBlock=O.ownBlock∨∃g,O'.ownBlock=some g/\w.heap.size<=g))/\Tn (d::m::O.ownBlock.toList) w w':=by
 obtain ⟨oa,oc,hOe⟩:=own_val h.dr.ord
 subst hOe
 obtain ⟨W0,hW0⟩:∃W,W=w.alloc (.cells #[.string text,.slice ra refs.length rc] 66):=⟨_,rfl⟩
 have bW0:Below w.heap.size w W0:=by rw [hW0];exact (Below.refl _ _).alloc (Nat.le_refl _) _
 have x0:CellsAt W0 w.heap.size [.string text,.slice ra refs.length rc]:=by rw [hW0];exact CellsAt.new w _ _
 have hD0:=h.below bW0
 obtain ⟨X,hX⟩:∃X,X=W0.setCell ⟨d,4,none⟩ (.int .i64 (births+1)):=⟨_,rfl⟩
 have hdw:d<w.heap.size:=h.dr.box.lt
 have tX:Tn [d] W0 X:=by rw [hX];exact tn1 _ _ _ _
 have hBX:CellsAt X d [.int .i64 wd,.map (some m),.int .i64 now,.int .i64 given,.int .i64 (births+1),.slice oa ks.length oc,P,L]:=by rw [hX];exact hD0.dr.box.set 4 _
 have hap:=ap_parts hD0.dr.ap
 have xX:CellsAt X w.heap.size [.string text,.slice ra refs.length rc]:=CellsAt.same x0 (tX.block _ x0.lt (by simp;omega))
 have oX:X.ownsRow base 139 8 (.slice oa ks.length oc) ks.length (cells8 (ks.map (·.sum))):=own_same hD0.dr.ord (fun g hg=>tX.block g (own_lt hD0.dr.ord hg).2 (by simp;exact (hap.2.1 g hg).1))
 have uX:HUV X base (vB d m (.slice oa ks.length oc) P L) m wd births ks:=HUV.turn hD0.dr.map tX (by intro b hb;simp at hb;subst hb;simp [vB]) (by simp;exact fun e=>hap.1 e.symm)
 have rX:RefV X base (vB d m (.slice oa ks.length oc) P L) ra refs:=(hr.move (U:=[]) (Tn.of bW0) (by simp) (fun b hb=> .inl hb)).move tX (by intro b hb;simp at hb;subst hb;exact .inl (by simp [vB])) (fun b hb=> .inl hb)
 obtain ⟨c4,k4⟩:=hD0.dr.box 4 _ rfl
 obtain ⟨c5,_⟩:=hD0.dr.box 5 _ rfl
 have hll:((ks.length:Int)==600)=false:=by simp;omega
 have hbb:(births==1000000000)=false:=by simp;omega
 have HW0:Hid _:=hW0
 have HX:Hid _:=hX
 have HD:Hid (DU w base d m (.slice oa ks.length oc) P L wd now given births ks ps ls):=h
 have HP:Hid _:=And.intro hBX (And.intro xX (And.intro oX (And.intro uX rX)))
 have HT:Hid (Tn [d] w X):=(Tn.of bW0).trans tX
 clear hW0 hX hD0 h hr x0 tX hBX xX oX uX rX bW0
 go_enter Tryz.func200,Tryz.ntmps200
 go_upto_region 1 with fail
 rw [←HW0.out]
 go_wp2_with fail
 rw [←HX.out]
 clear HX HW0
 refine (key_out s X).mono ?_
 rintro e w1 ⟨rfl,hb1'⟩
 obtain ⟨K,hK⟩:∃W,W=w1.alloc (.cells #[.int .u8 (kB s 0),.int .u8 (kB s 1),.int .u8 (kB s 2),.int .u8 (kB s 3),.int .u8 (kB s 4),.int .u8 (kB s 5),.int .u8 (kB s 6),.int .u8 (kB s 7)] 139):=⟨_,rfl⟩
 have bK1:Below w1.heap.size w1 K:=by rw [hK];exact (Below.refl _ _).alloc (Nat.le_refl _) _
 have bK:Below X.heap.size X K:=hb1'.trans (bK1.mono hb1'.size)
 have kK:CellsAt K w1.heap.size (kCells s):=by rw [hK];exact CellsAt.new w1 (kCells s) 139
 obtain ⟨hBX,xX,oX,uX,rX⟩:=HP.out
 have hloX:base<=X.heap.size:=Nat.le_trans HD.out.lo HT.out.size
 have hBK:=hBX.below bK
 have xK:=xX.below bK
 have oK:=own_below oX bK
 have rK:RefV K base (vB d m (.slice oa ks.length oc) P L) ra refs:=rX.move (U:=[]) (Tn.of bK) (by simp) (fun b hb=> .inl hb)
 obtain ⟨n1,f,hn1,hM1,hH⟩:=HUV.turn uX (U:=[]) (Tn.of bK) (by simp) (by simp)
 have hM:=hM1
 have hap:=ap_parts HD.out.dr.ap
 have hml:m<K.heap.size:=hM.lt
 obtain ⟨w5,hup,hM5,hg5⟩:=(hM.keep (Below.refl K.heap.size K).drew hM.lt).put keyed Tryz.underlying126 (val:=keptV ⟨s,births+1,text,refs⟩ ra rc) (by unfold maxLen;omega) (key_lit s)
 have hg5':K.grownBy w5 (some m):=grown_undrew hg5
 have kl:w1.heap.size<K.heap.size:=kK.lt
 have hmw:m<w.heap.size:=by obtain ⟨_,_,_,hM0,_⟩:=HD.out.dr.map;exact hM0.lt
 have hz1:w.heap.size<w1.heap.size:=by have h1:=hb1'.size;have h2:=xX.lt;omega
 have k5:CellsAt w5 w1.heap.size (kCells s):=CellsAt.far' (v:=.int .u8 (kB s 0)) kK hg5' (by omega)
 have x5:CellsAt w5 d _:=CellsAt.far' hBK hg5' (fun e=>hap.1 e.symm)
 have t5:CellsAt w5 w.heap.size [.string text,.slice ra refs.length rc]:=CellsAt.far' xK hg5' (by omega)
 have P4:K.drew.cell? ⟨d,1,none⟩=some (.map (some m))/\K.drew.cell? ⟨d,4,none⟩=some (.int .i64 (births+1))/\K.drew.cell? ⟨w.heap.size,0,none⟩=some (.string text)/\K.drew.cell? ⟨w.heap.size,1,none⟩=some (.slice ra refs.length rc)/\_:=⟨(hBK 1 _ rfl).1,(hBK 4 _ rfl).1,(xK 0 _ rfl).1,(xK 1 _ rfl).1,box8 (w:=K.drew) kK⟩
 have P5:w5.cell? ⟨d,1,none⟩=some (.map (some m))/\w5.cell? ⟨d,4,none⟩=some (.int .i64 (births+1))/\w5.cell? ⟨w.heap.size,0,none⟩=some (.string text)/\w5.cell? ⟨w.heap.size,1,none⟩=some (.slice ra refs.length rc)/\_:=⟨(x5 1 _ rfl).1,(x5 4 _ rfl).1,(t5 0 _ rfl).1,(t5 1 _ rfl).1,box8 k5⟩
 have o5:w5.ownsRow base 139 8 (.slice oa ks.length oc) ks.length (cells8 (ks.map (·.sum))):=World.ownsRow.kept oK hg5' (.inr (fun e=>(hap.2.1 m e).2.1 rfl))
 have HPl:=placeV base d m oa oc P L wd now given (births+1) ks s w5 x5 o5 (by omega) (by have:=hok.w8;omega) (fun x hx=>by have:=hok.sz x hx;omega) hok.sorted
 unfold keyV keyA at HPl hup
 unfold keptV at hup
 have HQ:Hid _:=HPl
 have H5:Hid _:=And.intro x5 (And.intro o5 (And.intro k5 (And.intro hM5 (And.intro hg5' (And.intro hH (And.intro rK (And.intro bK hn1)))))))
 have HK:Hid _:=hK
 clear hBX xX oX uX rX hBK xK oK rK hM1 hM HPl hK HP x5 o5 k5 hM5 hg5 hg5' hH t5 kK bK bK1 c4 k4 c5
 go_upto_region 5 with fail
 rw [←HK.out]
 clear HK
 go_region_held3 (fun X=>X.cell? ⟨d,1,none⟩=some (.map (some m))/\X.cell? ⟨d,4,none⟩=some (.int .i64 (births+1))/\X.cell? ⟨w.heap.size,0,none⟩=some (.string text)/\X.cell? ⟨w.heap.size,1,none⟩=some (.slice ra refs.length rc)/\(X.cell? ⟨w1.heap.size,0,none⟩=some (.int .u8 (kB s 0))/\X.cell? ⟨w1.heap.size,1,none⟩=some (.int .u8 (kB s 1))/\X.cell? ⟨w1.heap.size,2,none⟩=some (.int .u8 (kB s 2))/\X.cell? ⟨w1.heap.size,3,none⟩=some (.int .u8 (kB s 3))/\X.cell? ⟨w1.heap.size,4,none⟩=some (.int .u8 (kB s 4))/\X.cell? ⟨w1.heap.size,5,none⟩=some (.int .u8 (kB s 5))/\X.cell? ⟨w1.heap.size,6,none⟩=some (.int .u8 (kB s 6))/\X.cell? ⟨w1.heap.size,7,none⟩=some (.int .u8 (kB s 7))))
  (first|with_reducible exact P4|with_reducible exact P5)
  (fail)
 obtain ⟨q0,q1,q2,q3,q4,q5,q6,q7⟩:=box8 H5.out.2.2.1
 clear P4 P5 hup
 go_wp2_with fail
 refine Calls.mono HQ.out ?_
 rintro e w6 ⟨i,rfl,hpl,hb6⟩
 have hx6:=CellsAt.below H5.out.1 hb6
 have hk6:=CellsAt.below (v:=.int .u8 (kB s 0)) H5.out.2.2.1 hb6
 have ho6:w6.ownsRow base 139 8 (.slice oa ks.length oc) (ks.map (·.sum)).length (rowC kCells (ks.map (·.sum))):=by
  rw [List.length_map]
  exact own_below H5.out.2.1 hb6
 have hil:i<=ks.length:=by have:=hpl.le;rwa [List.length_map] at this
 obtain ⟨A,hA⟩:∃A,A=w6.drew.alloc (.cells (kCells s).toArray 139):=⟨_,rfl⟩
 have bA:Below w6.heap.size w6 A:=by rw [hA];exact (Below.refl _ _).drew.alloc (Nat.le_refl _) _
 have hlo6:base<=w6.heap.size:=by have h1:=H5.out.2.2.2.2.1.size;have h2:=hb6.size;have h3:=H5.out.2.2.2.2.2.2.2.1.size;omega
 have hcall:=insertKey_any (.slice oa ks.length oc) i (ks.map (·.sum)) s w6.heap.size A base (own_below ho6 bA) (by rw [List.length_map];omega) (by rw [List.length_map];exact hil) (Nat.le_trans hlo6 bA.size) (fun e=>Nat.lt_irrefl _ (own_lt ho6 e).2) (by rw [hA];exact heap_alloc_new w6.drew _)
 rw [List.length_map,hA] at hcall
 have HI:Hid _:=hcall
 have HPl:Hid _:=hpl
 have xA:=hx6.below bA
 have hd6:d<w6.heap.size:=hx6.lt
 obtain ⟨y5,_⟩:=hx6 5 _ rfl
 obtain ⟨r0,r1,r2,r3,r4,r5,r6,r7⟩:=box8 hk6
 have H6:Hid _:=And.intro hb6 (And.intro bA xA)
 have HAe:Hid _:=hA
 have hne:∀b,(Value.slice oa ks.length oc).ownBlock=some b->b≠d/\b≠m:=fun b hb=>⟨(hap.2.1 b hb).1,(hap.2.1 b hb).2.1⟩
 have hdA:d<A.heap.size:=xA.lt
 clear q0 q1 q2 q3 q4 q5 q6 q7 hpl hcall HQ ho6 hx6 hk6
 go_upto_region 7 with fail
 have bA':Below w6.heap.size w6 (w6.alloc (.cells #[.int .u8 (kB s 0),.int .u8 (kB s 1),.int .u8 (kB s 2),.int .u8 (kB s 3),.int .u8 (kB s 4),.int .u8 (kB s 5),.int .u8 (kB s 6),.int .u8 (kB s 7)] 139)):=(Below.refl _ _).alloc (Nat.le_refl _) _
 have a5:=(bA'.cell (p:=⟨d,5,none⟩) hd6).trans y5
 clear xA hA bA'
 unfold kCells keyA at HI
 go_region_law (first
  |(go_simp;go_at_call 229;refine Calls.mono HI.out ?_;rintro e w7 ⟨O',rfl,ho7,hg7,hk7⟩;obtain ⟨oa',oc',hOe⟩:=own_val ho7;subst hOe;have hgA:A.grownBy w7 (Value.slice oa ks.length oc).ownBlock:=(by rw [HAe.out];exact hg7);have x7:=CellsAt.same H6.out.2.2 (hgA.block d hdA (fun e=>(hne d e.symm).1 rfl));obtain ⟨f5,k5⟩:=x7 5 _ rfl))
 all_goals
  have hkA:(Value.slice oa' (ks.length+1) oc').ownBlock=(Value.slice oa ks.length oc).ownBlock∨(Value.slice oa' (ks.length+1) oc').ownBlock=some A.heap.size:=by rw [HAe.out];exact hk7
  have H7:Hid _:=And.intro x7 (And.intro hgA (And.intro hkA ho7))
  clear hk7 hg7 hgA x7 ho7 hkA HI a5 r0 r1 r2 r3 r4 r5 r6 r7 y5 HAe
  have hK:(∃O'',DU (w7.setCell ⟨d,5,none⟩ (.slice oa' (ks.length+1) oc')) base d m O'' P L wd now given (births+1) (insK ks ⟨s,births+1,text,refs⟩) ps ls/\(O''.ownBlock=(Value.slice oa ks.length oc).ownBlock∨∃g,O''.ownBlock=some g/\w.heap.size<=g))/\Tn (d::m::(Value.slice oa ks.length oc).ownBlock.toList) w (w7.setCell ⟨d,5,none⟩ (.slice oa' (ks.length+1) oc')):=by
   obtain ⟨x5,o5,k5',hM5,hg5,hH,rK,bK,hn1⟩:=H5.out
   obtain ⟨hb6,bA,xA⟩:=H6.out
   obtain ⟨x7,hgA,hkA,ho7⟩:=H7.out
   have t1:Tn (d::m::(Value.slice oa ks.length oc).ownBlock.toList) w X:=HT.out.mono (by simp)
   have t2:Tn (d::(Value.slice oa ks.length oc).ownBlock.toList) w5 (w7.setCell ⟨d,5,none⟩ (.slice oa' (ks.length+1) oc')):=(((Tn.of hb6).trans (Tn.of bA)).trans ((tn_grown hgA).mono (fun b hb=>List.mem_cons_of_mem _ hb))).trans ((tn1 w7 d 5 _).mono (by simp))
   have t3:Tn (d::m::(Value.slice oa ks.length oc).ownBlock.toList) K (w7.setCell ⟨d,5,none⟩ (.slice oa' (ks.length+1) oc')):=(Tn.grown hg5 (by simp)).trans (t2.mono (by intro b hb;simp at hb ⊢;rcases hb with hb|hb<;>simp [hb]))
   have tt:=(t1.trans (Tn.of bK)).trans t3
   have hzK:w.heap.size<=K.heap.size:=Nat.le_trans HT.out.size bK.size
   have hzA:w.heap.size<=A.heap.size:=Nat.le_trans (Nat.le_trans (Nat.le_trans hzK hg5.size) hb6.size) bA.size
   have hge:∀b∈d::m::(Value.slice oa ks.length oc).ownBlock.toList,base<=b:=by
    intro b hb
    rcases List.mem_cons.1 hb with rfl|hb
    ·exact HD.out.dr.bd
    ·rcases List.mem_cons.1 hb with rfl|hb
     ·exact HD.out.dr.bm
     ·exact (own_lt HD.out.dr.ord (by simpa using hb)).1
   have hm5:(w7.setCell ⟨d,5,none⟩ (.slice oa' (ks.length+1) oc')).heap[m]?=w5.heap[m]?:=t2.block m hM5.lt (fun e=>by
    rcases List.mem_cons.1 e with e|e
    ·exact hap.1 e.symm
    ·exact (hne m (by simpa using e)).2 rfl)
   have hMf:=KMap.same hM5 hm5
   have hbO:(Value.slice oa' (ks.length+1) oc').ownBlock=(Value.slice oa ks.length oc).ownBlock∨∃g,(Value.slice oa' (ks.length+1) oc').ownBlock=some g/\w.heap.size<=g:=by
    rcases hkA with hkA|hkA
    ·exact .inl hkA
    ·exact .inr ⟨_,hkA,hzA⟩
   have hne':∀b,(Value.slice oa' (ks.length+1) oc').ownBlock=some b->b≠d:=fun b hb=>by
    rcases hkA with hkA|hkA
    ·exact (hne b (hkA▸hb)).1
    ·rw [hkA] at hb
     cases hb
     omega
   refine ⟨⟨_,HD.out.newK tt (x7.set 5 _) ⟨n1+1,_,by omega,hMf,?_⟩ ?_ hbO,hbO⟩,tt⟩
   ·refine ((hH.snoc (x:=⟨s,births+1,text,refs⟩) (rc:=rc) hsw hok.w8 rK).same (fun u=>insK_mem)).move t3 (fun b hb=> .inl ?_) (fun b hb=> ?_)
    ·unfold vB
     simp only [List.mem_cons,List.mem_append] at hb ⊢
     rcases hb with e|e|e
     ·exact .inl e
     ·exact .inr (.inl e)
     ·exact .inr (.inr (.inl e))
    ·unfold vB at hb ⊢
     simp only [List.mem_cons,List.mem_append] at hb ⊢
     rcases hb with e|e|e|e|e
     ·exact .inl (.inl e)
     ·exact .inl (.inr (.inl e))
     ·rcases hkA with hkA|hkA
      ·rw [hkA] at e
       exact .inl (.inr (.inr (.inl e)))
      ·rw [hkA] at e
       simp at e
       exact .inr (by have h1:=hg5.size;have h2:=hb6.size;have h3:=bA.size;omega)
     ·exact .inl (.inr (.inr (.inr (.inl e))))
     ·exact .inl (.inr (.inr (.inr (.inr e))))
   ·rw [insK_len,←cells8_map_ins (x:=⟨s,births+1,text,refs⟩) HPl.out]
    exact own_set ho7 hne' 5 _
  have HKf:Hid _:=hK
  clear hK H7 H6 H5
  go_wp2
  go_end0
  exact ⟨rfl,HKf.out⟩
set_option maxRecDepth 20000 in
set_option maxHeartbeats 4000000 in
theorem lay_full (base d m:Nat) (O P L:Value) (wd now given births:Int) (ks:List Kd) (ps:List Pd) (ls:List Ld) (s text:ByteArray) (ra:Option Addr) (rn rc:Nat) (w:World) (h:DU w base d m O P L wd now given births ks ps ls) (hf:ks.length=600∨births=1000000000):
 Calls Tryz.prog 200 #[.pointer (some ⟨d,0,none⟩),.string s,.agg #[.string text,.slice ra rn rc]] w fun e w'=>e=.panicked [{v:=refV 4 ⟨#[]⟩ ⟨#[]⟩,recovered:=false}]/\Below w.heap.size w w':=by
 obtain ⟨oa,oc,hOe⟩:=own_val h.dr.ord
 subst hOe
 obtain ⟨W0,hW0⟩:∃W,W=w.alloc (.cells #[.string text,.slice ra rn rc] 66):=⟨_,rfl⟩
 have bW0:Below w.heap.size w W0:=by rw [hW0];exact (Below.refl _ _).alloc (Nat.le_refl _) _
 have hD0:=h.below bW0
 obtain ⟨c4,_⟩:=hD0.dr.box 4 _ rfl
 obtain ⟨c5,_⟩:=hD0.dr.box 5 _ rfl
 have HW0:Hid _:=hW0
 have HB:Hid (Below w.heap.size w W0):=bW0
 clear hW0 hD0 h bW0
 by_cases hk:ks.length=600
 ·have hll:((ks.length:Int)==600)=true:=by simp;omega
  clear hf hk
  go_enter Tryz.func200,Tryz.ntmps200
  go_upto_region 1 with fail
  rw [←HW0.out]
  go_wp2
  exact ⟨rfl,rfl,HB.out⟩
 ·have hll:((ks.length:Int)==600)=false:=by simp;omega
  have hbb:(births==1000000000)=true:=by simp;omega
  clear hf hk
  go_enter Tryz.func200,Tryz.ntmps200
  go_upto_region 1 with fail
  rw [←HW0.out]
  go_wp2
  exact ⟨rfl,rfl,HB.out⟩
end Go.Proofs.YtpekbmegopfhfaaGreatDoor
namespace Go.Proofs.YtpekbmegopfhfaaGreatDoor
open Go.ChangeShapes Go.WideShapes Go.ChangeAt Go.RowKit
def sumT (text:ByteArray) (refs:List ByteArray) (wd:Int):ByteArray:=sumText (formTxt text refs wd).data.toList wd.toNat
theorem shelf_find2 (wd:Int) (m n:Nat) (f:Lit->Option Value) (ks:List Kd) (W:World) (B:Nat) (s:ByteArray) (w:World) (hM:KMap w 139 m n f) (hH:Holds W B wd ks f) (hs:(s.size:Int)=wd):
 (¬There ks s/\Calls Tryz.prog 123 #[.agg #[.int .i64 wd,.map (some m)],.string s] w fun e w'=>e=.returned (.tuple #[.agg #[.string ⟨#[]⟩,.int .i64 0,.string ⟨#[]⟩,.slice none 0 0],.bool false])/\Below w.heap.size w w')∨
 ∃x ra rc,x∈ks/\x.sum=s/\SRow W B ra x.refs/\Calls Tryz.prog 123 #[.agg #[.int .i64 wd,.map (some m)],.string s] w fun e w'=>e=.returned (.tuple #[.agg #[.string x.sum,.int .i64 x.born,.string x.text,.slice ra x.refs.length rc],.bool true])/\Below w.heap.size w w':=by
 rcases hH s hs with ⟨h1,h2⟩|⟨x,ra,rc,h1,h2,h3,h4⟩
 ·exact .inl ⟨h2,find_any' wd m n f s w hM hs _ _ _ _ _ ⟨_,_,_,rfl⟩ (by rw [h1];rfl) (by rw [h1];rfl)⟩
 ·exact .inr ⟨x,ra,rc,h1,h2,h4,find_any' wd m n f s w hM hs _ _ _ _ _ ⟨_,_,_,rfl⟩ (by rw [h3];rfl) (by rw [h3];rfl)⟩
def PutTo (base d m:Nat) (O P L:Value) (wd now given births:Int) (ks:List Kd) (ps:List Pd) (ls:List Ld) (text:ByteArray) (refs:List ByteArray) (w:World) (e:Ending) (w':World):Prop:=
 ((¬∀r∈refs,There ks r)/\e=.panicked [{v:=refV 2 ⟨#[]⟩ ⟨#[]⟩,recovered:=false}]/\Below w.heap.size w w')∨
 ((∀r∈refs,There ks r)/\(
   (∃k∈ks,k.sum=sumT text refs wd/\formTxt k.text k.refs wd=formTxt text refs wd/\e=.returned (.string (sumT text refs wd))/\Below w.heap.size w w')∨
   (∃k∈ks,k.sum=sumT text refs wd/\formTxt k.text k.refs wd≠formTxt text refs wd/\e=.panicked [{v:=refV 3 (formTxt k.text k.refs wd) (formTxt text refs wd),recovered:=false}]/\Below w.heap.size w w')∨
   (¬There ks (sumT text refs wd)/\(ks.length=600∨births=1000000000)/\e=.panicked [{v:=refV 4 ⟨#[]⟩ ⟨#[]⟩,recovered:=false}]/\Below w.heap.size w w')∨
   (¬There ks (sumT text refs wd)/\ks.length<600/\births<1000000000/\e=.returned (.string (sumT text refs wd))/\(∃O',DU w' base d m O' P L wd now given (births+1) (insK ks ⟨sumT text refs wd,births+1,text,refs⟩) ps ls/\(O'.ownBlock=O.ownBlock∨∃g,O'.ownBlock=some g/\w.heap.size<=g))/\Tn (d::m::O.ownBlock.toList) w w')))
set_option maxRecDepth 20000 in
set_option maxHeartbeats 4000000 in
theorem put_any (base d m:Nat) (O P L:Value) (wd now given births:Int) (ks:List Kd) (ps:List Pd) (ls:List Ld) (text:ByteArray) (refs:List ByteArray) (ra:Option Addr) (rc:Nat) (w:World) (h:DU w base d m O P L wd now given births ks ps ls) (hok:KsOk wd ks) (h1:1<=wd) (htx:∀k∈ks,k.text.size<=maxLen) (hsS:((sumT text refs wd).size:Int)=wd) (htl:text.size<=maxLen) (hrl:refs.length<=1000) (hb0:0<=births) (hb1:births<=1000000000) (hr:RefV w base (vB d m O P L) ra refs):
 Calls Tryz.prog 168 #[.pointer (some ⟨d,0,none⟩),.agg #[.string text,.slice ra refs.length rc]] w (PutTo base d m O P L wd now given births ks ps ls text refs w):=by
 obtain ⟨W,hW⟩:∃W,W=w.alloc (.cells #[.string text,.slice ra refs.length rc] 66):=⟨_,rfl⟩
 have bW:Below w.heap.size w W:=by rw [hW];exact (Below.refl _ _).alloc (Nat.le_refl _) _
 have hzW:W.heap.size=w.heap.size+1:=by rw [hW];simp
 have x0:CellsAt W w.heap.size [.string text,.slice ra refs.length rc]:=by rw [hW];exact CellsAt.new w _ _
 have HW:Hid _:=hW
 have HD:Hid (∀X,Below W.heap.size W X->DU X base d m O P L wd now given births ks ps ls/\RefV X base (vB d m O P L) ra refs/\CellsAt X w.heap.size [.string text,.slice ra refs.length rc]/\Below w.heap.size w X):=fun X hX=>by
  have hb:Below w.heap.size w X:=bW.trans (hX.mono (by omega))
  exact ⟨h.below hb,hr.move (U:=[]) (Tn.of hb) (by simp) (fun b hb=> .inl hb),CellsAt.below x0 hX,hb⟩
 have HOK:Hid (KsOk wd ks):=hok
 have HTX:Hid (∀k∈ks,k.text.size<=maxLen):=htx
 have hlo:=h.lo
 clear hW h hr bW hok htx
 obtain ⟨x00,_⟩:=x0 0 _ rfl
 obtain ⟨x01,_⟩:=x0 1 _ rfl
 go_enter Tryz.func168,Tryz.ntmps168
 go_upto_region 1 with fail
 rw [←HW.out]
 clear HW
 go_wp2
 go_loopw [15] (fun i wr=>∃(k:Nat),k<=refs.length/\i=.int .i64 k/\Hid ((∀r∈refs.take k,There ks r)/\Below W.heap.size W wr)) (fun i _=>refs.length -(intOf i).toNat)
 case atStart=>exact ⟨0,Nat.zero_le _,rfl,⟨fun r hr=>by simp at hr,Below.refl _ _⟩⟩
 case round=>
  clear x00 x01 x0
  obtain ⟨k,hk,rfl,HI⟩:=hrel
  obtain ⟨hDr,hRr,xr,hbr⟩:=HD.out wr HI.out.2
  have HDr:Hid _:=hDr
  have HBr:Hid (Below w.heap.size w wr):=hbr
  obtain ⟨x00,_⟩:=xr 0 _ rfl
  obtain ⟨x01,_⟩:=xr 1 _ rfl
  by_cases hlt:k<refs.length
  ·obtain ⟨b,off,ha,hbl,hc⟩:=hRr.row.at hlt
   subst ha
   have HG:Hid (refs[k]?=some refs[k]):=List.getElem?_eq_getElem hlt
   have c0:=hc k _ HG.out
   have HTk:Hid (refs.take (k+1)=refs.take k++[refs[k]]):=List.take_succ_eq_append_getElem hlt
   clear hc hDr hRr
   generalize refs[k]=r at *
   by_cases hth:There ks r
   ·have HNy:Hid _:=need_yes base d m O P L wd now given births ks ps ls r wr HDr.out.dr HOK.out.sz hth
    have HTh:Hid (There ks r):=hth
    clear hth
    go_wp2_with fail
    refine Calls.mono HNy.out ?_
    rintro e w2 ⟨rfl,hb2⟩
    have HB2:Hid (Below W.heap.size W w2):=HI.out.2.trans (hb2.mono HI.out.2.size)
    clear HNy hb2 c0 x00 x01 xr
    go_wp2
    refine ⟨⟨k+1,by omega,by go_num,⟨?_,HB2.out⟩⟩,by simp [intOf];omega⟩
    rw [HTk.out]
    intro r' hr'
    rcases List.mem_append.1 hr' with hr'|hr'
    ·exact HI.out.1 r' hr'
    ·simp at hr'
     rw [hr']
     exact HTh.out
   ·have HNn:Hid _:=need_no base d m O P L wd now given births ks ps ls r wr HDr.out.dr HOK.out.sz hth
    have HTh:Hid (¬There ks r):=hth
    clear hth
    go_wp2_with fail
    refine Calls.mono HNn.out ?_
    rintro e w2 ⟨rfl,hb2⟩
    go_wp2
    exact ⟨rfl,.inl ⟨fun hall=>HTh.out (hall r (List.mem_of_getElem? HG.out)),rfl,HBr.out.trans (hb2.mono HBr.out.size)⟩⟩
  ·obtain rfl:k=refs.length:=by omega
   have hall:=HI.out.1
   rw [List.take_of_length_le (Nat.le_refl _)] at hall
   have HAll:Hid (∀r∈refs,There ks r):=hall
   obtain ⟨c0,_⟩:=hDr.dr.box 0 _ rfl
   have HBI:Hid (Below W.heap.size W wr):=HI.out.2
   clear hall HI
   have hzr:W.heap.size<=wr.heap.size:=HBI.out.size
   have D0:Below wr.heap.size wr wr.drew:=(Below.refl _ _).drew
   have HF:Hid _:=iForm_any text ra rc refs wd wr.drew (SRow.below' hRr.row D0) (by omega) htl
   clear hDr hRr
   go_upto_region 6 with fail
   go_region_with (go_at_call 198;refine Calls.mono HF.out ?_;rintro e w2 ⟨rfl,hb2⟩)
   all_goals
    have HB2:Hid (Below W.heap.size W w2):=HBI.out.trans ((D0.trans hb2).mono hzr)
    obtain ⟨hD2,hR2,xx2,hb2w⟩:=HD.out w2 HB2.out
    obtain ⟨c0',_⟩:=hD2.dr.box 0 _ rfl
    have HS:Hid _:=isum_any (formTxt text refs wd) wd w2 (formTxt_size _ _ _) h1 HOK.out.w8
    have HSe:Hid (sumText (formTxt text refs wd).data.toList wd.toNat=sumT text refs wd):=rfl
    rw [HSe.out] at HS
    generalize hFF:formTxt text refs wd=FF at *
    generalize hSS:sumT text refs wd=SS at *
    clear hb2 c0 x00 x01 xr HF D0 hbr
    go_wp2_with fail
    refine Calls.mono HS.out ?_
    rintro e w3 ⟨rfl,hb3⟩
    have HB3:Hid (Below W.heap.size W w3):=HB2.out.trans (hb3.mono HB2.out.size)
    obtain ⟨hD3,hR3,xx3,hb3w⟩:=HD.out w3 HB3.out
    obtain ⟨d0,_⟩:=hD3.dr.box 0 _ rfl
    obtain ⟨d1,_⟩:=hD3.dr.box 1 _ rfl
    have HD3:Hid _:=hD3
    have HR3:Hid _:=hR3
    have HX3:Hid (CellsAt w3 w.heap.size [.string text,.slice ra refs.length rc]):=xx3
    have HB3w:Hid (Below w.heap.size w w3):=hb3w
    obtain ⟨n3,f3,hn3,hM3,hH3⟩:=hD3.dr.map
    clear hb3 HS c0' hD2 hR2 xx2 hb2w hR3 xx3 hb3w hD3
    rcases shelf_find2 wd m n3 f3 ks w3 w3.heap.size SS w3 hM3 hH3.holds hsS with ⟨hno,hcl⟩|⟨x,xa,xc,hxk,hxs,hxr,hcl⟩
    ·have HC:Hid _:=hcl
     have HNo:Hid (¬There ks SS):=hno
     clear hcl hno hM3 hH3
     go_wp2_with fail
     refine Calls.mono HC.out ?_
     rintro e w4 ⟨rfl,hb4⟩
     obtain ⟨Y,hY⟩:∃Y,Y=w4.alloc (.cells #[.string ⟨#[]⟩,.int .i64 0,.string ⟨#[]⟩,.slice none 0 0] 114):=⟨_,rfl⟩
     have bY:Below w4.heap.size w4 Y:=by rw [hY];exact (Below.refl _ _).alloc (Nat.le_refl _) _
     have HBY:Hid (Below w3.heap.size w3 Y):=hb4.trans (bY.mono hb4.size)
     have HY:Hid _:=hY
     have yD:=HD3.out.below HBY.out
     have yX:=CellsAt.below HX3.out HBY.out
     obtain ⟨y0,_⟩:=yX 0 _ rfl
     obtain ⟨y1,_⟩:=yX 1 _ rfl
     have HBf:Hid (Below w.heap.size w Y):=HB3w.out.trans (HBY.out.mono HB3w.out.size)
     by_cases hfull:ks.length=600∨births=1000000000
     ·have HL:Hid _:=lay_full base d m O P L wd now given births ks ps ls SS text ra refs.length rc Y yD hfull
      have HFu:Hid (ks.length=600∨births=1000000000):=hfull
      clear hb4 hY bY yD yX hfull d0 d1 HC
      go_upto_region 10 with fail
      rw [←HY.out]
      go_wp2_with fail
      refine Calls.mono HL.out ?_
      rintro e w5 ⟨rfl,hb5⟩
      go_wp2
      exact ⟨rfl,.inr ⟨HAll.out,.inr (.inr (.inl ⟨hSS▸HNo.out,HFu.out,rfl,HBf.out.trans (hb5.mono HBf.out.size)⟩))⟩⟩
     ·have hl6:ks.length<600:=by have:=HOK.out.len;omega
      have hb6:births<1000000000:=by omega
      have HL:Hid _:=lay_yes base d m O P L wd now given births ks ps ls SS text refs ra rc Y yD HOK.out hsS hl6 hb0 hb6 (RefV.move HR3.out (U:=[]) (Tn.of HBY.out) (by simp) (fun b hb=> .inl hb))
      clear hb4 hY bY yD yX hfull d0 d1 HC
      go_upto_region 10 with fail
      rw [←HY.out]
      go_wp2_with fail
      refine Calls.mono HL.out ?_
      rintro e w5 ⟨rfl,⟨O',hO1,hO2⟩,hO4⟩
      have HQ:Hid _:=And.intro hO1 (And.intro hO2 hO4)
      clear hO1 hO2 hO4 HL
      go_wp2
      go_ret
      subst hSS
      refine .inr ⟨HAll.out,.inr (.inr (.inr ⟨HNo.out,hl6,hb6,rfl,⟨O',HQ.out.1,?_⟩,(Tn.of HBf.out).trans HQ.out.2.2⟩))⟩
      rcases HQ.out.2.1 with e|⟨g,e,hg⟩
      ·exact .inl e
      ·exact .inr ⟨g,e,Nat.le_trans HBf.out.size hg⟩
    ·have HC:Hid _:=hcl
     have HXk:Hid (x∈ks/\x.sum=SS):=⟨hxk,hxs⟩
     clear hcl hM3 hH3
     go_wp2_with fail
     refine Calls.mono HC.out ?_
     rintro e w4 ⟨rfl,hb4⟩
     obtain ⟨Y,hY⟩:∃Y,Y=w4.alloc (.cells #[.string x.sum,.int .i64 x.born,.string x.text,.slice xa x.refs.length xc] 114):=⟨_,rfl⟩
     have bY:Below w4.heap.size w4 Y:=by rw [hY];exact (Below.refl _ _).alloc (Nat.le_refl _) _
     have HBY:Hid (Below w3.heap.size w3 Y):=hb4.trans (bY.mono hb4.size)
     have HY:Hid _:=hY
     have yD:=HD3.out.below HBY.out
     have yK:CellsAt Y w4.heap.size [.string x.sum,.int .i64 x.born,.string x.text,.slice xa x.refs.length xc]:=by rw [hY];exact CellsAt.new w4 _ _
     obtain ⟨y2,_⟩:=yK 2 _ rfl
     obtain ⟨y3,_⟩:=yK 3 _ rfl
     obtain ⟨e0,_⟩:=yD.dr.box 0 _ rfl
     have HBf:Hid (Below w.heap.size w Y):=HB3w.out.trans (HBY.out.mono HB3w.out.size)
     have DY:Below Y.heap.size Y Y.drew:=(Below.refl _ _).drew
     have hloY:base<=Y.heap.size:=yD.lo
     have hxrY:SRow Y.drew Y.drew.heap.size xa x.refs:=SRow.below' hxr (HBY.out.trans (DY.mono HBY.out.size))
     have HF2:Hid _:=iForm_any x.text xa xc x.refs wd Y.drew hxrY (by have:=(HOK.out.refs x hxk).1;omega) (HTX.out x hxk)
     clear hb4 hY bY yD yK d0 d1 HC hxr hxrY hxk hxs
     go_upto_region 12 with fail
     rw [←HY.out]
     go_region_with (go_at_call 198;refine Calls.mono HF2.out ?_;rintro e w5 ⟨rfl,hb5⟩)
     all_goals
      have HB5:Hid (Below w.heap.size w w5):=HBf.out.trans ((DY.trans hb5).mono HBf.out.size)
      clear hb5 y2 y3 e0 HF2
      by_cases hsame:formTxt x.text x.refs wd=FF
      ·have hq:(FF.toList !=FF.toList)=false:=by simp
       rw [hsame]
       have HSm:Hid (formTxt x.text x.refs wd=FF):=hsame
       clear hsame
       go_wp2
       go_ret
       subst hSS
       exact .inr ⟨HAll.out,.inl ⟨x,HXk.out.1,HXk.out.2,HSm.out.trans hFF.symm,rfl,HB5.out⟩⟩
      ·have HSm:Hid (formTxt x.text x.refs wd≠FF):=hsame
       have hq2:((formTxt x.text x.refs wd).toList==FF.toList)=false:=beq_ne hsame
       have hq:((formTxt x.text x.refs wd).toList !=FF.toList)=true:=by simp [bne,hq2]
       clear hsame
       generalize hGG:formTxt x.text x.refs wd=GG at *
       have HGG:Hid _:=hGG
       clear hGG
       go_wp2
       subst hSS
       refine ⟨rfl,.inr ⟨HAll.out,.inr (.inl ⟨x,HXk.out.1,HXk.out.2,?_,?_,HB5.out⟩)⟩⟩
       ·rw [HGG.out,hFF]
        exact HSm.out
       ·rw [HGG.out,hFF]
        rfl
end Go.Proofs.YtpekbmegopfhfaaGreatDoor
namespace Go.Proofs.YtpekbmegopfhfaaGreatDoor
open Go.ChangeShapes Go.WideShapes Go.ChangeAt Go.RowKit
def PutYes (wd births:Int) (ks:List Kd) (text:ByteArray) (refs:List ByteArray) (ks1:List Kd) (births1:Int):Prop:=
 (∃k∈ks,k.sum=sumT text refs wd/\formTxt k.text k.refs wd=formTxt text refs wd/\ks1=ks/\births1=births)∨
 (¬There ks (sumT text refs wd)/\ks.length<600/\births<1000000000/\ks1=insK ks ⟨sumT text refs wd,births+1,text,refs⟩/\births1=births+1)
def PutNo (wd given births:Int) (ks:List Kd) (ls:List Ld) (text:ByteArray) (refs:List ByteArray) (c:Int) (a b:ByteArray):Prop:=
 ((¬∀r∈refs,There ks r)/\c=2/\a=⟨#[]⟩/\b=⟨#[]⟩)∨
 ((∀r∈refs,There ks r)/\(
   (∃k∈ks,k.sum=sumT text refs wd/\formTxt k.text k.refs wd≠formTxt text refs wd/\c=3/\a=formTxt k.text k.refs wd/\b=formTxt text refs wd)∨
   (¬There ks (sumT text refs wd)/\(ks.length=600∨births=1000000000)/\c=4/\a=⟨#[]⟩/\b=⟨#[]⟩)∨
   ((∃ks1 births1,PutYes wd births ks text refs ks1 births1)/\(ls.length=200∨given=1000000000)/\c=4/\a=⟨#[]⟩/\b=⟨#[]⟩)))
theorem PutYes.there {wd births:Int} {ks:List Kd} {text:ByteArray} {refs:List ByteArray} {ks1:List Kd} {births1:Int} (h:PutYes wd births ks text refs ks1 births1):There ks1 (sumT text refs wd):=by
 rcases h with ⟨k,hk,hs,_,rfl,_⟩|⟨_,_,_,rfl,_⟩
 ·exact ⟨k,hk,hs⟩
 ·exact ⟨⟨sumT text refs wd,births+1,text,refs⟩,insK_mem.2 (by simp),rfl⟩
theorem PutYes.sz {wd births:Int} {ks:List Kd} {text:ByteArray} {refs:List ByteArray} {ks1:List Kd} {births1:Int} (h:PutYes wd births ks text refs ks1 births1) (hsz:∀k∈ks,(k.sum.size:Int)=wd) (hS:((sumT text refs wd).size:Int)=wd):∀k∈ks1,(k.sum.size:Int)=wd:=by
 rcases h with ⟨k,hk,hs,_,rfl,_⟩|⟨_,_,_,rfl,_⟩
 ·exact hsz
 ·intro k hk
  rcases List.mem_append.1 (insK_mem.1 hk) with hk|hk
  ·exact hsz k hk
  ·simp at hk
   rw [hk]
   exact hS
set_option maxRecDepth 20000 in
set_option maxHeartbeats 4000000 in
theorem changePut_any (base d m:Nat) (O P L:Value) (wd now given births:Int) (ks:List Kd) (ps:List Pd) (ls:List Ld) (s nm text:ByteArray) (num:Int) (refs:List ByteArray) (ra:Option Addr) (rc:Nat) (w:World) (h:DU w base d m O P L wd now given births ks ps ls) (hok:KsOk wd ks) (h1:1<=wd) (htx:∀k∈ks,k.text.size<=maxLen) (hsS:((sumT text refs wd).size:Int)=wd) (htl:text.size<=maxLen) (hrl:refs.length<=1000) (hb0:0<=births) (hb1:births<=1000000000) (hr:RefV w base (vB d m O P L) ra refs) (hl:ls.length<=200) (hg0:0<=given) (hg1:given<=1000000000) (hn0:0<=now) (hn1:now<=1000000000) (ht0:0<=num) (ht1:num<=1000000000):
 Calls Tryz.prog 139 #[.pointer (some ⟨d,0,none⟩),.agg #[.int .i64 1,.string s,.string nm,.int .i64 num,.string text,.slice ra refs.length rc]] w fun e w'=>(∃c a b,PutNo wd given births ks ls text refs c a b/\e=.panicked [{v:=refV c a b,recovered:=false}]/\Tn (vB d m O P L) w w')∨
  (∃ks1 births1,(∀r∈refs,There ks r)/\PutYes wd births ks text refs ks1 births1/\ls.length<200/\given<1000000000/\e=.returned (.agg #[.int .i64 0,.int .i64 0,.int .i64 0,.int .i64 0,.int .i64 0,.slice none 0 0,.slice none 0 0,.slice none 0 0,.string (sumT text refs wd),.int .i64 (given+1),.string ⟨#[]⟩,.string ⟨#[]⟩])/\∃O' L',DU w' base d m O' P L' wd now (given+1) births1 ks1 ps (ls++[⟨given+1,sumT text refs wd,now+num⟩])/\Tn (vB d m O P L) w w'):=by
 obtain ⟨W,hW⟩:∃W,W=((w.alloc (.cells #[.int .i64 1,.string s,.string nm,.int .i64 num,.string text,.slice ra refs.length rc] 77)).alloc (.cells #[.int .i64 0,.int .i64 0,.int .i64 0,.int .i64 0,.int .i64 0,.slice none 0 0,.slice none 0 0,.slice none 0 0,.string ⟨#[]⟩,.int .i64 0,.string ⟨#[]⟩,.string ⟨#[]⟩] 30)).alloc (.cells #[.int .i64 0,.int .i64 0,.int .i64 0,.int .i64 0,.int .i64 0,.slice none 0 0,.slice none 0 0,.slice none 0 0,.string ⟨#[]⟩,.int .i64 0,.string ⟨#[]⟩,.string ⟨#[]⟩] 30):=⟨_,rfl⟩
 have hB:Below w.heap.size w W:=by rw [hW];exact (((Below.refl _ _).alloc (Nat.le_refl _) _).alloc (by simp) _).alloc (by simp;omega) _
 have hzW:W.heap.size=w.heap.size+3:=by rw [hW];simp
 have xE:CellsAt W w.heap.size [.int .i64 1,.string s,.string nm,.int .i64 num,.string text,.slice ra refs.length rc]:=by
  have h1:=CellsAt.new w [.int .i64 1,.string s,.string nm,.int .i64 num,.string text,.slice ra refs.length rc] 77
  rw [hW]
  exact CellsAt.below (CellsAt.below h1 ((Below.refl _ _).alloc (Nat.le_refl _) _)) ((Below.refl _ _).alloc (Nat.le_refl _) _)
 have zR:CellsAt W (w.heap.size+1) z12:=by
  have h1:=CellsAt.new (w.alloc (.cells #[.int .i64 1,.string s,.string nm,.int .i64 num,.string text,.slice ra refs.length rc] 77)) z12 30
  rw [World.size_alloc] at h1
  rw [hW]
  exact CellsAt.below (v:=.int .i64 0) h1 ((Below.refl _ _).alloc (Nat.le_refl _) _)
 have zO:CellsAt W (w.heap.size+2) z12:=by
  have h1:=CellsAt.new ((w.alloc (.cells #[.int .i64 1,.string s,.string nm,.int .i64 num,.string text,.slice ra refs.length rc] 77)).alloc (.cells #[.int .i64 0,.int .i64 0,.int .i64 0,.int .i64 0,.int .i64 0,.slice none 0 0,.slice none 0 0,.slice none 0 0,.string ⟨#[]⟩,.int .i64 0,.string ⟨#[]⟩,.string ⟨#[]⟩] 30)) z12 30
  rw [World.size_alloc,World.size_alloc] at h1
  rw [hW]
  exact h1
 have hRb:W.heap[w.heap.size+1]?=some (.cells #[.int .i64 0,.int .i64 0,.int .i64 0,.int .i64 0,.int .i64 0,.slice none 0 0,.slice none 0 0,.slice none 0 0,.string ⟨#[]⟩,.int .i64 0,.string ⟨#[]⟩,.string ⟨#[]⟩] 30):=by
  rw [hW,Below.heap_alloc _ _ _ (by simp)]
  have:=heap_alloc_new (w.alloc (.cells #[.int .i64 1,.string s,.string nm,.int .i64 num,.string text,.slice ra refs.length rc] 77)) (.cells #[.int .i64 0,.int .i64 0,.int .i64 0,.int .i64 0,.int .i64 0,.slice none 0 0,.slice none 0 0,.slice none 0 0,.string ⟨#[]⟩,.int .i64 0,.string ⟨#[]⟩,.string ⟨#[]⟩] 30)
  rw [World.size_alloc] at this
  exact this
 have hOb:W.heap[w.heap.size+2]?=some (.cells #[.int .i64 0,.int .i64 0,.int .i64 0,.int .i64 0,.int .i64 0,.slice none 0 0,.slice none 0 0,.slice none 0 0,.string ⟨#[]⟩,.int .i64 0,.string ⟨#[]⟩,.string ⟨#[]⟩] 30):=by
  have:=heap_alloc_new ((w.alloc (.cells #[.int .i64 1,.string s,.string nm,.int .i64 num,.string text,.slice ra refs.length rc] 77)).alloc (.cells #[.int .i64 0,.int .i64 0,.int .i64 0,.int .i64 0,.int .i64 0,.slice none 0 0,.slice none 0 0,.slice none 0 0,.string ⟨#[]⟩,.int .i64 0,.string ⟨#[]⟩,.string ⟨#[]⟩] 30)) (.cells #[.int .i64 0,.int .i64 0,.int .i64 0,.int .i64 0,.int .i64 0,.slice none 0 0,.slice none 0 0,.slice none 0 0,.string ⟨#[]⟩,.int .i64 0,.string ⟨#[]⟩,.string ⟨#[]⟩] 30)
  rw [World.size_alloc,World.size_alloc] at this
  rw [hW]
  exact this
 have hD:=h.below hB
 have hdl:=h.dr.box.lt
 have hlt:∀b∈vB d m O P L,b<w.heap.size:=h.dr.lts
 have hbw:base<=w.heap.size:=h.lo
 have HC:Hid _:=put_any base d m O P L wd now given births ks ps ls text refs ra rc W hD hok h1 htx hsS htl hrl hb0 hb1 (hr.move (U:=[]) (Tn.of hB) (by simp) (fun b hb=> .inl hb))
 have HW:Hid _:=hW
 have HZ:Hid (CellsAt W (w.heap.size+1) z12/\CellsAt W (w.heap.size+2) z12/\W.heap[w.heap.size+1]?=some (.cells #[.int .i64 0,.int .i64 0,.int .i64 0,.int .i64 0,.int .i64 0,.slice none 0 0,.slice none 0 0,.slice none 0 0,.string ⟨#[]⟩,.int .i64 0,.string ⟨#[]⟩,.string ⟨#[]⟩] 30)/\W.heap[w.heap.size+2]?=some (.cells #[.int .i64 0,.int .i64 0,.int .i64 0,.int .i64 0,.int .i64 0,.slice none 0 0,.slice none 0 0,.slice none 0 0,.string ⟨#[]⟩,.int .i64 0,.string ⟨#[]⟩,.string ⟨#[]⟩] 30)/\Below w.heap.size w W/\W.heap.size=w.heap.size+3/\CellsAt W w.heap.size [.int .i64 1,.string s,.string nm,.int .i64 num,.string text,.slice ra refs.length rc]):=⟨zR,zO,hRb,hOb,hB,hzW,xE⟩
 have HLt:Hid (∀b∈vB d m O P L,b<w.heap.size):=hlt
 have HDW:Hid (DU W base d m O P L wd now given births ks ps ls):=hD
 have HSZ:Hid (∀k∈ks,(k.sum.size:Int)=wd):=hok.sz
 obtain ⟨e0,_⟩:=xE 0 _ rfl
 obtain ⟨e3,_⟩:=xE 3 _ rfl
 obtain ⟨e4,_⟩:=xE 4 _ rfl
 obtain ⟨e5,_⟩:=xE 5 _ rfl
 clear hW h hD zR zO hRb hOb hB hzW xE hlt hr hok
 go_enter Tryz.func139,Tryz.ntmps139
 go_upto_region 2 with fail
 rw [←HW.out]
 clear HW
 go_wp2_with fail
 refine Calls.mono HC.out ?_
 intro e w1 hput
 have hT0:Tn (vB d m O P L) w W:=Tn.of HZ.out.2.2.2.2.1
 obtain ⟨hrefs,rfl,hb⟩|⟨hall,hput⟩:=hput
 ·clear e0 e3 e4 e5
  go_wp2
  exact ⟨rfl,.inl ⟨2,_,_,.inl ⟨hrefs,rfl,rfl,rfl⟩,rfl,hT0.trans (Tn.of hb)⟩⟩
 have hdone:(∃c a b,PutNo wd given births ks ls text refs c a b/\e=.panicked [{v:=refV c a b,recovered:=false}]/\Tn (vB d m O P L) W w1)∨(e=.returned (.string (sumT text refs wd))/\∃ks1 births1 O1,PutYes wd births ks text refs ks1 births1/\DU w1 base d m O1 P L wd now given births1 ks1 ps ls/\Tn (vB d m O P L) W w1/\(O1.ownBlock=O.ownBlock∨∃g,O1.ownBlock=some g/\W.heap.size<=g)):=by
  rcases hput with ⟨k,hk,hs,hf,rfl,hb⟩|⟨k,hk,hs,hf,rfl,hb⟩|⟨hno,hfull,rfl,hb⟩|⟨hno,hl6,hb6,rfl,⟨O',hO1,hO2⟩,ht⟩
  ·exact .inr ⟨rfl,ks,births,O,.inl ⟨k,hk,hs,hf,rfl,rfl⟩,HDW.out.below hb,Tn.of hb,.inl rfl⟩
  ·exact .inl ⟨3,_,_,.inr ⟨hall,.inl ⟨k,hk,hs,hf,rfl,rfl,rfl⟩⟩,rfl,Tn.of hb⟩
  ·exact .inl ⟨4,_,_,.inr ⟨hall,.inr (.inl ⟨hno,hfull,rfl,rfl,rfl⟩)⟩,rfl,Tn.of hb⟩
  ·exact .inr ⟨rfl,_,_,O',.inr ⟨hno,hl6,hb6,rfl,rfl⟩,hO1,ht.mono (by intro b hb;unfold vB;simp at hb ⊢;rcases hb with rfl|rfl|hb<;>simp [*]),hO2⟩
 clear hput
 have HAll:Hid (∀r∈refs,There ks r):=hall
 clear hall
 obtain ⟨c,a,b,hno,rfl,ht⟩|⟨rfl,ks1,births1,O1,hyes,hd1,htp,hO1⟩:=hdone
 ·clear e0 e3 e4 e5
  go_wp2
  exact ⟨rfl,.inl ⟨c,a,b,hno,rfl,hT0.trans ht⟩⟩
 have zz:=HZ.out.2.2.2.2.2.1
 have hnR:∀j,w.heap.size<=j->j∉vB d m O P L:=fun j hj h=>by have:=HLt.out _ h;omega
 have zR1:CellsAt w1 (w.heap.size+1) z12:=CellsAt.same HZ.out.1 (htp.block _ (by omega) (hnR _ (by omega)))
 have zO1:CellsAt w1 (w.heap.size+2) z12:=CellsAt.same HZ.out.2.1 (htp.block _ (by omega) (hnR _ (by omega)))
 have xE1:CellsAt w1 w.heap.size [.int .i64 1,.string s,.string nm,.int .i64 num,.string text,.slice ra refs.length rc]:=CellsAt.same HZ.out.2.2.2.2.2.2 (htp.block _ (by omega) (hnR _ (by omega)))
 have hR1:w1.heap[w.heap.size+1]?=some (.cells #[.int .i64 0,.int .i64 0,.int .i64 0,.int .i64 0,.int .i64 0,.slice none 0 0,.slice none 0 0,.slice none 0 0,.string ⟨#[]⟩,.int .i64 0,.string ⟨#[]⟩,.string ⟨#[]⟩] 30):=(htp.block _ (by omega) (hnR _ (by omega))).trans HZ.out.2.2.1
 have hO1b:w1.heap[w.heap.size+2]?=some (.cells #[.int .i64 0,.int .i64 0,.int .i64 0,.int .i64 0,.int .i64 0,.slice none 0 0,.slice none 0 0,.slice none 0 0,.string ⟨#[]⟩,.int .i64 0,.string ⟨#[]⟩,.string ⟨#[]⟩] 30):=(htp.block _ (by omega) (hnR _ (by omega))).trans HZ.out.2.2.2.1
 obtain ⟨X,hX⟩:∃X,X=w1.setCell ⟨w.heap.size+2,8,none⟩ (.string (sumT text refs wd)):=⟨_,rfl⟩
 have tX:Tn [w.heap.size+2] w1 X:=by rw [hX];exact tn1 _ _ _ _
 have zOX:CellsAt X (w.heap.size+2) (z12.set 8 (.string (sumT text refs wd))):=by rw [hX];exact zO1.set 8 _
 have zRX:CellsAt X (w.heap.size+1) z12:=CellsAt.same zR1 (tX.block _ zR1.lt (by simp))
 have xEX:CellsAt X w.heap.size [.int .i64 1,.string s,.string nm,.int .i64 num,.string text,.slice ra refs.length rc]:=CellsAt.same xE1 (tX.block _ xE1.lt (by simp))
 have hdX:DU X base d m O1 P L wd now given births1 ks1 ps ls:=hd1.turn tX (by intro b hb;simp at hb;subst hb;exact ⟨by omega,hd1.notin hO1b (by omega)⟩)
 have o8:=(zO1 8 _ rfl).2
 have v8:=(zO1 8 _ rfl).1
 have hsz1:=hyes.sz HSZ.out hsS
 have HP1:Hid _:=And.intro hyes (And.intro hd1 (And.intro htp hO1))
 have HX1:Hid _:=And.intro tX (And.intro zOX (And.intro zRX (And.intro hdX (And.intro hO1b hR1))))
 have HXe:Hid _:=hX
 have HXb:Hid (∃cur,X.heap[w.heap.size+2]?=some (.cells cur 30)):=⟨_,by rw [hX,setCell_eq_setRow w1 _ _ _ _ _ _ hO1b];exact setRow_heap w1 _ _ _ _ _ hO1b⟩
 obtain ⟨e3',_⟩:=xEX 3 _ rfl
 have s8:=(zOX 8 _ rfl).1
 have zOXl:w.heap.size+2<X.heap.size:=zOX.lt
 by_cases hfull:ls.length=200∨given=1000000000
 ·have HL:Hid _:=lend_full base d m O1 P L wd now given births1 ks1 ps ls (sumT text refs wd) num X hdX hsz1 hyes.there hfull
  clear e0 e3 e4 e5 hX tX zOX zRX xEX hdX zR1 zO1 xE1 hR1 hO1b hsz1 HC
  go_upto_region 5 with fail
  rw [←HXe.out]
  go_wp2_with fail
  refine Calls.mono HL.out ?_
  rintro e w2 ⟨rfl,hb2⟩
  go_wp2
  refine ⟨rfl,.inl ⟨4,_,_,.inr ⟨HAll.out,.inr (.inr ⟨⟨_,_,HP1.out.1⟩,hfull,rfl,rfl,rfl⟩)⟩,rfl,?_⟩⟩
  have t0:=(hT0.trans HP1.out.2.2.1).fresh HX1.out.1 (show w.heap.size<=w.heap.size+2 by omega)
  exact t0.trans (Tn.of hb2)
 ·have hl2:ls.length<200:=by omega
  have hg2:given<1000000000:=by omega
  have HL:Hid _:=lend_yes base d m O1 P L wd now given births1 ks1 ps ls (sumT text refs wd) num X hdX hsz1 hyes.there hl2 hg0 hg2 hn0 hn1 ht0 ht1
  clear e0 e3 e4 e5 hX tX zOX zRX xEX hdX zR1 zO1 xE1 hR1 hO1b hsz1 HC hfull
  go_upto_region 5 with fail
  rw [←HXe.out]
  go_wp2_with fail
  refine Calls.mono HL.out ?_
  rintro e w2 ⟨rfl,L',hd2,ht2⟩
  obtain ⟨tX,zOX,zRX,hdX,hO1b,hR1⟩:=HX1.out
  have hltL:∀b∈d::L.ownBlock.toList,b<w.heap.size:=fun b hb=>HLt.out b (by unfold vB;simp at hb ⊢;rcases hb with rfl|hb<;>simp [*])
  have zR2:CellsAt w2 (w.heap.size+1) z12:=CellsAt.same zRX (ht2.block _ zRX.lt (fun h=>by have:=hltL _ h;omega))
  have zO2:CellsAt w2 (w.heap.size+2) (z12.set 8 (.string (sumT text refs wd))):=CellsAt.same zOX (ht2.block _ zOX.lt (fun h=>by have:=hltL _ h;omega))
  have hRX:X.heap[w.heap.size+1]?=_:=(tX.block _ (by have:=HP1.out.2.2.1.size;omega) (by simp)).trans hR1
  have hR2:w2.heap[w.heap.size+1]?=some (.cells #[.int .i64 0,.int .i64 0,.int .i64 0,.int .i64 0,.int .i64 0,.slice none 0 0,.slice none 0 0,.slice none 0 0,.string ⟨#[]⟩,.int .i64 0,.string ⟨#[]⟩,.string ⟨#[]⟩] 30):=(ht2.block _ zRX.lt (fun h=>by have:=hltL _ h;omega)).trans hRX
  obtain ⟨curO,hOX⟩:=HXb.out
  have hO2:w2.heap[w.heap.size+2]?=some (.cells curO 30):=(ht2.block _ zOX.lt (fun h=>by have:=hltL _ h;omega)).trans hOX
  have HD2:Hid _:=And.intro hd2 (And.intro ht2 (And.intro (hd2.notin hR2 (by omega)) (hd2.notin hO2 (by omega))))
  obtain ⟨⟨y0,q0⟩,⟨y1,q1⟩,⟨y2,q2⟩,⟨y3,q3⟩,⟨y4,q4⟩,⟨y5,q5⟩,⟨y6,q6⟩,⟨y7,q7⟩,⟨y8,q8⟩,⟨y9,q9⟩,⟨y10,q10⟩,y11,q11⟩:=z12at zR2
  obtain ⟨v0,p0⟩:=zO2 0 _ rfl
  obtain ⟨v1,p1⟩:=zO2 1 _ rfl
  obtain ⟨v2,p2⟩:=zO2 2 _ rfl
  obtain ⟨v3,p3⟩:=zO2 3 _ rfl
  obtain ⟨v4,p4⟩:=zO2 4 _ rfl
  obtain ⟨v5,p5⟩:=zO2 5 _ rfl
  obtain ⟨v6,p6⟩:=zO2 6 _ rfl
  obtain ⟨v7,p7⟩:=zO2 7 _ rfl
  obtain ⟨v8',p8⟩:=zO2 8 _ rfl
  obtain ⟨v9,p9⟩:=zO2 9 _ rfl
  obtain ⟨v10,p10⟩:=zO2 10 _ rfl
  obtain ⟨v11,p11⟩:=zO2 11 _ rfl
  clear hd2 ht2 zR2 zO2 hR2 hO2 hRX tX zOX zRX hdX hO1b hR1 HL hltL hOX e3' s8 o8 v8
  go_wp2
  refine bodyPost_ret (v:=.agg #[.int .i64 0,.int .i64 0,.int .i64 0,.int .i64 0,.int .i64 0,.slice none 0 0,.slice none 0 0,.slice none 0 0,.string (sumT text refs wd),.int .i64 (given+1),.string ⟨#[]⟩,.string ⟨#[]⟩]) (by simp [results,Tryz.results139,go_sem,y0,y1,y2,y3,y4,y5,y6,y7,y8,y9,y10,y11]) rfl ?_
  have T9:=(Tn.set (V:=[w.heap.size+1,w.heap.size+2]) w2 (w.heap.size+2) 9 (.int .i64 (given+1)) (by simp)).trans (Tn.mono (tn12 (w2.setCell ⟨w.heap.size+2,9,none⟩ (.int .i64 (given+1))) (w.heap.size+1) (.int .i64 0) (.int .i64 0) (.int .i64 0) (.int .i64 0) (.int .i64 0) (.slice none 0 0) (.slice none 0 0) (.slice none 0 0) (.string (sumT text refs wd)) (.int .i64 (given+1)) (.string ⟨#[]⟩) (.string ⟨#[]⟩)) (by simp))
  refine .inr ⟨ks1,births1,HAll.out,HP1.out.1,hl2,hg2,rfl,O1,L',HD2.out.1.turn T9 (by intro b hb;simp at hb;rcases hb with rfl|rfl;exact ⟨by omega,HD2.out.2.2.1⟩;exact ⟨by omega,HD2.out.2.2.2⟩),?_⟩
  have t0:=(hT0.trans HP1.out.2.2.1).fresh HX1.out.1 (show w.heap.size<=w.heap.size+2 by omega)
  have t1:=t0.trans (HD2.out.2.1.mono (V':=vB d m O P L) (by intro b hb;unfold vB;simp at hb ⊢;rcases hb with rfl|hb<;>simp [*]))
  exact ⟨T9.os.trans t1.os,T9.tape.trans t1.tape,T9.output.trans t1.output,Nat.le_trans t1.size T9.size,fun b hb hv=>(T9.block b (Nat.lt_of_lt_of_le hb t1.size) (by simp;omega)).trans (t1.block b hb hv)⟩
end Go.Proofs.YtpekbmegopfhfaaGreatDoor
