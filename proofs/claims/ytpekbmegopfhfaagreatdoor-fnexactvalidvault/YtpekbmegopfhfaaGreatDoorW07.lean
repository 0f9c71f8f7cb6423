import Derived.Test.YtpekbmegopfhfaaGreatDoorW06
import Derived.Test.YtpekbmegopfhfaaGreatDoorW05
import Derived.Test.YtpekbmegopfhfaaGreatDoorW04
import Derived.Lib.BytesEntry
namespace Go.Proofs.YtpekbmegopfhfaaGreatDoor
open Go.ChangeShapes Go.WideShapes Go.ChangeAt Go.RowKit
def kC (x:Kd×Value):List Value:=[.string x.1.sum,.int .i64 x.1.born,.string x.1.text,x.2]
theorem kC_len4 (x:Kd×Value):(kC x).length=4:=rfl
structure SAns (w:World) (base:Nat) (T P L:Value) (rs:List Value) (ks:List Kd) (ps:List Pd) (ls:List Ld):Prop where
 len:rs.length=ks.length
 things:w.ownsRow base 114 4 T ks.length (rowC kC (ks.zip rs))
 refs:∀(i:Nat) (k:Kd) (r:Value),ks[i]?=some k->rs[i]?=some r->w.ownsRow base 9 1 r k.refs.length (k.refs.map Value.string)
 pins:w.ownsRow base 134 2 P ps.length (rowC pC ps)
 leases:w.ownsRow base 137 3 L ls.length (rowC lC ls)
 nd:((T::P::L::rs).filterMap Value.ownBlock).Nodup
theorem below_undrew {B:Nat} {w w':World} (h:Below B w.drew w'):Below B w w':=⟨h.os,h.tape,h.output,h.size,h.block⟩
theorem own_val {w:World} {base:Nat} {e:TypeId} {size:Nat} {v:Value} {n:Nat} {xs:List Value} (h:w.ownsRow base e size v n xs):∃a c,v=.slice a n c:=by
 rcases h.2 with ⟨rfl,rfl⟩|⟨g,cap,cur,rfl,_⟩
 ·exact ⟨_,_,rfl⟩
 ·exact ⟨_,_,rfl⟩
theorem own_set {w:World} {base:Nat} {e:TypeId} {size:Nat} {v:Value} {n:Nat} {xs:List Value} (h:w.ownsRow base e size v n xs) {b:Nat} (hne:∀g,v.ownBlock=some g->g≠b) (j:Nat) (u:Value):(w.setCell ⟨b,j,none⟩ u).ownsRow base e size v n xs:=
 World.ownsRow.kept h (rd_grown w b j u) (.inr (fun e=>hne b e rfl))
theorem d8 {w:World} {d:Nat} {a0 a1 a2 a3 a4 a5 a6 a7:Value} (h:CellsAt w d [a0,a1,a2,a3,a4,a5,a6,a7]):w.cell? ⟨d,0,none⟩=some a0/\w.cell? ⟨d,2,none⟩=some a2/\w.cell? ⟨d,3,none⟩=some a3/\w.cell? ⟨d,4,none⟩=some a4/\w.cell? ⟨d,6,none⟩=some a6/\w.cell? ⟨d,7,none⟩=some a7:=
 ⟨(h 0 _ rfl).1,(h 2 _ rfl).1,(h 3 _ rfl).1,(h 4 _ rfl).1,(h 6 _ rfl).1,(h 7 _ rfl).1⟩
def blks (T P L:Value) (rs:List Value):List Nat:=T.ownBlock.toList++(P.ownBlock.toList++(L.ownBlock.toList++rs.filterMap Value.ownBlock))
theorem blks_eq (T P L:Value) (rs:List Value):(T::P::L::rs).filterMap Value.ownBlock=blks T P L rs:=by
 unfold blks
 cases hT:T.ownBlock<;>cases hP:P.ownBlock<;>cases hL:L.ownBlock<;>simp [hT,hP,hL]
theorem nd_step {sb n:Nat} {T T' P L r:Option Nat} {R:List Nat} (h:(sb::(T.toList++(P.toList++(L.toList++R)))).Nodup) (hlt:∀b∈sb::(T.toList++(P.toList++(L.toList++R))),b<n)
 (hr:∀g,r=some g->n<=g) (hT:T'=T∨∃t,T'=some t/\n<=t/\∀g,r=some g->g≠t):(sb::(T'.toList++(P.toList++(L.toList++(R++r.toList))))).Nodup:=by
 rcases hT with rfl|⟨t,rfl,ht,hrt⟩
 ·cases T'<;>cases P<;>cases L<;>cases r<;>simp_all [List.nodup_append]<;>grind
 ·cases T<;>cases P<;>cases L<;>cases r<;>simp_all [List.nodup_append]<;>grind
theorem nd_facts0 {sb:Nat} {T P L:Option Nat} {R:List Nat} (h:(sb::(T.toList++(P.toList++(L.toList++R)))).Nodup):
 (∀g,T=some g->g≠sb)/\(∀g,P=some g->g≠sb/\T≠some g)/\(∀g,L=some g->g≠sb/\T≠some g)/\(∀g∈R,g≠sb/\T≠some g):=by
 cases T<;>cases P<;>cases L<;>simp_all<;>grind
theorem own_same {w w':World} {base:Nat} {e:TypeId} {size:Nat} {v:Value} {n:Nat} {xs:List Value} (h:w.ownsRow base e size v n xs) (hs:∀g,v.ownBlock=some g->w'.heap[g]?=w.heap[g]?):w'.ownsRow base e size v n xs:=by
 refine ⟨h.1,?_⟩
 rcases h.2 with hn|⟨g,cap,cur,rfl,hb1,hg,rest⟩
 ·exact .inl hn
 ·exact .inr ⟨g,cap,cur,rfl,hb1,(hs g rfl).trans hg,rest⟩
theorem sum_uniq {ks:List Kd} (hnd:(ks.map (·.sum)).Nodup) {u v:Kd} (hu:u∈ks) (hv:v∈ks) (h:u.sum=v.sum):u=v:=by
 induction ks with
 |nil=>cases hu
 |cons x xs ih=>
  simp only [List.map_cons,List.nodup_cons,List.mem_map,not_exists,not_and] at hnd
  rcases List.mem_cons.1 hu with hu'|hu'<;>rcases List.mem_cons.1 hv with hv'|hv'
  ·rw [hu',hv']
  ·exact absurd (hu'▸h.symm) (hnd.1 v hv')
  ·exact absurd (hv'▸h) (hnd.1 u hu')
  ·exact ih hnd.2 hu' hv'
def z7:List Value:=[.int .i64 0,.int .i64 0,.int .i64 0,.int .i64 0,.slice none 0 0,.slice none 0 0,.slice none 0 0]
theorem z7at {w:World} {b:Nat} (h:CellsAt w b z7):(w.cell? ⟨b,0,none⟩=some (.int .i64 0)/\w.frozen? ⟨b,0,none⟩=false)/\(w.cell? ⟨b,1,none⟩=some (.int .i64 0)/\w.frozen? ⟨b,1,none⟩=false)/\(w.cell? ⟨b,2,none⟩=some (.int .i64 0)/\w.frozen? ⟨b,2,none⟩=false)/\(w.cell? ⟨b,3,none⟩=some (.int .i64 0)/\w.frozen? ⟨b,3,none⟩=false)/\(w.cell? ⟨b,4,none⟩=some (.slice none 0 0)/\w.frozen? ⟨b,4,none⟩=false)/\(w.cell? ⟨b,5,none⟩=some (.slice none 0 0)/\w.frozen? ⟨b,5,none⟩=false)/\(w.cell? ⟨b,6,none⟩=some (.slice none 0 0)/\w.frozen? ⟨b,6,none⟩=false):=
 ⟨h 0 _ rfl,h 1 _ rfl,h 2 _ rfl,h 3 _ rfl,h 4 _ rfl,h 5 _ rfl,h 6 _ rfl⟩
theorem set7 {w:World} {b:Nat} (h:CellsAt w b z7) (a0 a1 a2 a3 a4 a5 a6:Value):CellsAt (((((((w.setCell ⟨b,0,none⟩ a0).setCell ⟨b,1,none⟩ a1).setCell ⟨b,2,none⟩ a2).setCell ⟨b,3,none⟩ a3).setCell ⟨b,4,none⟩ a4).setCell ⟨b,5,none⟩ a5).setCell ⟨b,6,none⟩ a6) b [a0,a1,a2,a3,a4,a5,a6]:=
 (((((((h.set 0 a0).set 1 a1).set 2 a2).set 3 a3).set 4 a4).set 5 a5).set 6 a6)
theorem own_set7 {w:World} {base:Nat} {e:TypeId} {size:Nat} {v:Value} {n:Nat} {xs:List Value} (h:w.ownsRow base e size v n xs) {b:Nat} (hne:∀g,v.ownBlock=some g->g≠b) (a0 a1 a2 a3 a4 a5 a6:Value):(((((((w.setCell ⟨b,0,none⟩ a0).setCell ⟨b,1,none⟩ a1).setCell ⟨b,2,none⟩ a2).setCell ⟨b,3,none⟩ a3).setCell ⟨b,4,none⟩ a4).setCell ⟨b,5,none⟩ a5).setCell ⟨b,6,none⟩ a6).ownsRow base e size v n xs:=
 own_set (own_set (own_set (own_set (own_set (own_set (own_set h hne 0 _) hne 1 _) hne 2 _) hne 3 _) hne 4 _) hne 5 _) hne 6 _
theorem below_set7 {B:Nat} {a w:World} (h:Below B a w) {b:Nat} (hb:B<=b) (a0 a1 a2 a3 a4 a5 a6:Value):Below B a (((((((w.setCell ⟨b,0,none⟩ a0).setCell ⟨b,1,none⟩ a1).setCell ⟨b,2,none⟩ a2).setCell ⟨b,3,none⟩ a3).setCell ⟨b,4,none⟩ a4).setCell ⟨b,5,none⟩ a5).setCell ⟨b,6,none⟩ a6):=
 ((((((h.setCell hb a0).setCell hb a1).setCell hb a2).setCell hb a3).setCell hb a4).setCell hb a5).setCell hb a6
def Apart3 (b:Nat) (P L:Value):Prop:=(∀g,P.ownBlock=some g->g≠b)/\(∀g,L.ownBlock=some g->g≠b)/\(∀g,P.ownBlock=some g->L.ownBlock=some g->False)
set_option maxRecDepth 20000 in
set_option maxHeartbeats 16000000 in
theorem state_any (base d m:Nat) (O P L:Value) (wd now given births:Int) (ks:List Kd) (ps:List Pd) (ls:List Ld) (w:World) (hd:Dr w base d m O P L wd now given births ks ps ls) (hnd:(ks.map (·.sum)).Nodup) (hsz:∀k∈ks,(k.sum.size:Int)=wd) (hk:ks.length<=600) (hp:ps.length<=100) (hl:ls.length<=200) (hr30:∀k∈ks,k.refs.length<=30):
 Calls Tryz.prog 47 #[.pointer (some ⟨d,0,none⟩)] w fun e w'=>∃T P' L' rs,e=.returned (.agg #[.int .i64 wd,.int .i64 now,.int .i64 given,.int .i64 births,T,P',L'])/\SAns w' w.heap.size T P' L' rs ks ps ls/\Below w.heap.size w w':=by
 obtain ⟨pa,pcp,rfl⟩:=own_val hd.pin
 obtain ⟨la,lcp,rfl⟩:=own_val hd.lea
 obtain ⟨oa,ocp,rfl⟩:=own_val hd.ord
 have HD:Hid _:=hd
 have hdl:=hd.box.lt
 obtain ⟨W,hW⟩:∃W,W=w.alloc (.cells #[.int .i64 0,.int .i64 0,.int .i64 0,.int .i64 0,.slice none 0 0,.slice none 0 0,.slice none 0 0] 28):=⟨_,rfl⟩
 have hBW:Below w.heap.size w W:=by rw [hW];exact (Below.refl _ _).alloc (Nat.le_refl _) _
 have hzW:W.heap.size=w.heap.size+1:=by rw [hW];simp
 have ZW:CellsAt W w.heap.size z7:=by rw [hW];exact CellsAt.new w _ _
 have HDW:Hid _:=hd.below hBW
 have HPin:Hid (∀X,Below W.heap.size W X->Calls Tryz.prog 96 #[.slice pa ps.length pcp] X fun e w'=>∃a' c',e=.returned (.slice a' ps.length c')/\w'.ownsRow X.heap.size 134 2 (.slice a' ps.length c') ps.length (rowC pC ps)/\Below X.heap.size X w'):=
  fun X hX=>clonePin_any pa pcp ps X (PRow.own (own_below HDW.out.pin hX)) (by omega)
 have HLea:Hid (∀X,Below W.heap.size W X->Calls Tryz.prog 97 #[.slice la ls.length lcp] X fun e w'=>∃a' c',e=.returned (.slice a' ls.length c')/\w'.ownsRow X.heap.size 137 3 (.slice a' ls.length c') ls.length (rowC lC ls)/\Below X.heap.size X w'):=
  fun X hX=>cloneLease_any la lcp ls X (LRow.own (own_below HDW.out.lea hX)) (by omega)
 have HS:Hid (∀X,Below W.heap.size W X->X.cell? ⟨d,0,none⟩=some (.int .i64 wd)/\X.cell? ⟨d,2,none⟩=some (.int .i64 now)/\X.cell? ⟨d,3,none⟩=some (.int .i64 given)/\X.cell? ⟨d,4,none⟩=some (.int .i64 births)/\X.cell? ⟨d,6,none⟩=some (.slice pa ps.length pcp)/\X.cell? ⟨d,7,none⟩=some (.slice la ls.length lcp)):=
  fun X hX=>d8 (HDW.out.box.below hX)
 have D0:Below W.heap.size W W.drew:=(Below.refl _ _).drew
 have D1:∀o,Below W.heap.size W (W.alloc o).drew:=fun o=>((Below.refl _ _).alloc (Nat.le_refl _) _).drew
 have HW:Hid _:=hW
 have HZW:Hid _:=ZW
 have HzW:Hid _:=hzW
 clear hd hW ZW hzW
 go_enter Tryz.func47,Tryz.ntmps47
 go_upto_region 1 with fail
 rw [←HW.out]
 clear HW
 go_cut [3] (fun v wx=>∃(sb:Nat) (a1 a2:Option Addr) (c1 c2:Nat),v=.pointer (some ⟨sb,0,none⟩)/\Hid (CellsAt wx sb [.int .i64 wd,.int .i64 now,.int .i64 given,.int .i64 births,.slice none 0 0,.slice a1 ps.length c1,.slice a2 ls.length c2]/\wx.ownsRow W.heap.size 134 2 (.slice a1 ps.length c1) ps.length (rowC pC ps)/\wx.ownsRow W.heap.size 137 3 (.slice a2 ls.length c2) ls.length (rowC lC ls)/\Apart3 sb (.slice a1 ps.length c1) (.slice a2 ls.length c2)/\W.heap.size<=sb/\Below W.heap.size W wx))
 case first=>
  go_region_held3 (fun w'=>w'.cell? ⟨d,0,none⟩=some (.int .i64 wd)/\w'.cell? ⟨d,2,none⟩=some (.int .i64 now)/\w'.cell? ⟨d,3,none⟩=some (.int .i64 given)/\w'.cell? ⟨d,4,none⟩=some (.int .i64 births)/\w'.cell? ⟨d,6,none⟩=some (.slice pa ps.length pcp)/\w'.cell? ⟨d,7,none⟩=some (.slice la ls.length lcp))
   (first
     |with_reducible exact HS.out _ D0
     |with_reducible exact HS.out _ (D1 _)
     |with_reducible exact HS.out _ B1
     |with_reducible exact HS.out _ B2
     |with_reducible exact HS.out _ (B1.alloc B1.size _)
     |with_reducible exact HS.out _ (B2.alloc B2.size _)
     |with_reducible exact HS.out _ (below_set7 B2 hsb2 _ _ _ _ _ _ _))
   (first
     |(go_at_call 96;guard_target=~Calls Tryz.prog 96 _ (World.drew (World.alloc W _)) _;refine (HPin.out (W.alloc (.cells #[.int .i64 0,.int .i64 0,.int .i64 0,.int .i64 0,.slice none 0 0,.slice none 0 0,.slice none 0 0] 28)).drew (D1 _)).mono ?_;rintro e w1 ⟨a1,c1,rfl,ho1,hb1⟩;have B1:Below W.heap.size W w1:=(D1 _).trans (hb1.mono (by simp));have nA:CellsAt w1 W.heap.size z7:=(CellsAt.below (w:=W.alloc (.cells #[.int .i64 0,.int .i64 0,.int .i64 0,.int .i64 0,.slice none 0 0,.slice none 0 0,.slice none 0 0] 28)) (CellsAt.new W _ _) (below_undrew hb1)))
     |(go_at_call 96;guard_target=~Calls Tryz.prog 96 _ (World.drew W) _;refine (HPin.out W.drew D0).mono ?_;rintro e w1 ⟨a1,c1,rfl,ho1,hb1⟩;have B1:Below W.heap.size W w1:=D0.trans hb1)
     |(go_at_call 97;have tag:=nA;refine (HLea.out w1 B1).mono ?_;rintro e w2 ⟨a2,c2,rfl,ho2,hb2⟩;have B2:Below W.heap.size W w2:=B1.trans (hb2.mono B1.size);have n2:CellsAt w2 W.heap.size z7:=(CellsAt.below nA hb2);have hsb2:W.heap.size<=W.heap.size:=Nat.le_refl _;obtain ⟨⟨y0,q0⟩,⟨y1,q1⟩,⟨y2,q2⟩,⟨y3,q3⟩,⟨y4,q4⟩,⟨y5,q5⟩,y6,q6⟩:=z7at n2)
     |(go_at_call 97;guard_target=~Calls Tryz.prog 97 _ (World.alloc w1 _) _;refine (HLea.out (w1.alloc (.cells #[.int .i64 0,.int .i64 0,.int .i64 0,.int .i64 0,.slice none 0 0,.slice none 0 0,.slice none 0 0] 28)) (B1.alloc B1.size _)).mono ?_;rintro e w2 ⟨a2,c2,rfl,ho2,hb2⟩;have B2:Below W.heap.size W w2:=(B1.alloc B1.size _).trans (hb2.mono (by have:=B1.size;simp;omega));have nB:CellsAt w2 w1.heap.size z7:=(CellsAt.below (CellsAt.new w1 _ _) hb2);have hsb2:W.heap.size<=w1.heap.size:=B1.size;obtain ⟨⟨y0,q0⟩,⟨y1,q1⟩,⟨y2,q2⟩,⟨y3,q3⟩,⟨y4,q4⟩,⟨y5,q5⟩,y6,q6⟩:=z7at nB)
     |(go_at_call 97;refine (HLea.out w1 B1).mono ?_;rintro e w2 ⟨a2,c2,rfl,ho2,hb2⟩;have nC:=ho1;have B2:Below W.heap.size W w2:=B1.trans (hb2.mono B1.size)))
  all_goals (go_wp2_with fail;go_meet)
  all_goals first
   |(have tag:=nA
     have zz:=HzW.out
     have l1:∀g,(Value.slice a1 ps.length c1).ownBlock=some g->W.heap.size+1<=g/\g<w1.heap.size:=fun g hg=>by have:=own_lt ho1 hg;simp at this;omega
     have l2:∀g,(Value.slice a2 ls.length c2).ownBlock=some g->w1.heap.size<=g:=fun g hg=>(own_lt ho2 hg).1
     have z1:W.heap.size+1<=w1.heap.size:=by have:=hb1.size;simp at this;omega
     exact ⟨W.heap.size,a1,a2,c1,c2,rfl,set7 n2 _ _ _ _ _ _ _,own_set7 (own_below (ho1.mono (by simp)) hb2) (fun g hg=>by have:=l1 g hg;omega) _ _ _ _ _ _ _,own_set7 (ho2.mono (by omega)) (fun g hg=>by have:=l2 g hg;omega) _ _ _ _ _ _ _,⟨fun g hg=>by have:=l1 g hg;omega,fun g hg=>by have:=l2 g hg;omega,fun g hg hg'=>by have:=l1 g hg;have:=l2 g hg';omega⟩,Nat.le_refl _,below_set7 B2 (Nat.le_refl _) _ _ _ _ _ _ _⟩)
   |(have tag:=nB
     have l1:∀g,(Value.slice a1 ps.length c1).ownBlock=some g->W.heap.size<=g/\g<w1.heap.size:=fun g hg=>by have:=own_lt ho1 hg;simp at this;omega
     have l2:∀g,(Value.slice a2 ls.length c2).ownBlock=some g->w1.heap.size+1<=g:=fun g hg=>by have:=(own_lt ho2 hg).1;simp at this;omega
     exact ⟨w1.heap.size,a1,a2,c1,c2,rfl,set7 nB _ _ _ _ _ _ _,own_set7 (own_below (own_below (ho1.mono (by simp)) ((Below.refl _ _).alloc (Nat.le_refl _) _)) hb2) (fun g hg=>by have:=l1 g hg;omega) _ _ _ _ _ _ _,own_set7 (ho2.mono (by simp;omega)) (fun g hg=>by have:=l2 g hg;omega) _ _ _ _ _ _ _,⟨fun g hg=>by have:=l1 g hg;omega,fun g hg=>by have:=l2 g hg;omega,fun g hg hg'=>by have:=l1 g hg;have:=l2 g hg';omega⟩,hsb2,below_set7 B2 hsb2 _ _ _ _ _ _ _⟩)
   |(have tag:=nC
     have l1:∀g,(Value.slice a1 ps.length c1).ownBlock=some g->W.heap.size<=g/\g<w1.heap.size:=fun g hg=>by have:=own_lt ho1 hg;simp at this;omega
     have l2:∀g,(Value.slice a2 ls.length c2).ownBlock=some g->w1.heap.size<=g/\g<w2.heap.size:=fun g hg=>own_lt ho2 hg
     have z2:=hb2.size
     exact ⟨w2.heap.size,a1,a2,c1,c2,rfl,CellsAt.new w2 _ _,own_below (own_below (ho1.mono (by simp)) hb2) ((Below.refl _ _).alloc (Nat.le_refl _) _),own_below (ho2.mono B1.size) ((Below.refl _ _).alloc (Nat.le_refl _) _),⟨fun g hg=>by have:=l1 g hg;omega,fun g hg=>by have:=l2 g hg;omega,fun g hg hg'=>by have:=l1 g hg;have:=l2 g hg';omega⟩,B2.size,B2.alloc B2.size _⟩)
 case rest=>
  revert wc
  intro wN hcut
  obtain ⟨sb,a1,a2,c1,c2,rfl,HC⟩:=hcut
  have HNB:Hid (Below w.heap.size w wN):=hBW.trans (HC.out.2.2.2.2.2.mono hBW.size)
  have dN:=(HDW.out.box.below HC.out.2.2.2.2.2)
  obtain ⟨e5,_⟩:=dN 5 _ rfl
  have zN:=HC.out.2.2.2.2.2.size
  have sbN:W.heap.size<=sb:=HC.out.2.2.2.2.1
  have HZN:Hid (CellsAt wN w.heap.size z7):=CellsAt.below (v:=.int .i64 0) (l:=z7.tail) HZW.out HC.out.2.2.2.2.2
  clear dN HPin HLea HS D0 D1 HZW
  go_wp2
  go_loopw [40] (fun i wr=>∃(k:Nat) (T:Value) (rs:List Value),k<=ks.length/\i=.int .i64 k/\Hid (CellsAt wr sb [.int .i64 wd,.int .i64 now,.int .i64 given,.int .i64 births,T,.slice a1 ps.length c1,.slice a2 ls.length c2]/\CellsAt wr w.heap.size z7/\wr.ownsRow W.heap.size 114 4 T k (rowC kC ((ks.take k).zip rs))/\rs.length=k/\(∀(i:Nat) (x:Kd) (r:Value),(ks.take k)[i]?=some x->rs[i]?=some r->wr.ownsRow W.heap.size 9 1 r x.refs.length (x.refs.map Value.string))/\wr.ownsRow W.heap.size 134 2 (.slice a1 ps.length c1) ps.length (rowC pC ps)/\wr.ownsRow W.heap.size 137 3 (.slice a2 ls.length c2) ls.length (rowC lC ls)/\(sb::blks T (.slice a1 ps.length c1) (.slice a2 ls.length c2) rs).Nodup)/\Below w.heap.size w wr) (fun i _=>ks.length -(intOf i).toNat)
  case atStart=>
   refine ⟨0,.slice none 0 0,[],Nat.zero_le _,rfl,⟨HC.out.1,HZN.out,⟨rfl,.inl ⟨rfl,rfl⟩⟩,rfl,fun i x r hx=>by simp at hx,HC.out.2.1,HC.out.2.2.1,?_⟩,HNB.out⟩
   have h3:=HC.out.2.2.2.1
   unfold Apart3 at h3
   unfold blks
   generalize (Value.slice a1 ps.length c1).ownBlock=x1 at *
   generalize (Value.slice a2 ls.length c2).ownBlock=x2 at *
   cases x1<;>cases x2<;>simp_all [Value.ownBlock]<;>grind
  case round=>
   obtain ⟨k,T,rs,hkl,rfl,HI,hbel⟩:=hrel
   by_cases hlt:k<ks.length
   ·obtain ⟨n,f,hn,hM,hH⟩:=HD.out.map
    have hzr:=hbel.size
    have ho:wr.ownsRow base 139 8 (.slice oa ks.length ocp) ks.length (cells8 (ks.map (·.sum))):=own_at HD.out.ord hbel (fun g hg=>(own_lt HD.out.ord hg).2)
    obtain ⟨og,oc,heq,_,hog⟩:=own_form ho (fun e=>by injection e with _ h2 _;omega)
    cases heq
    have HG:Hid (ks[k]?=some ks[k]):=List.getElem?_eq_getElem hlt
    have hmem:ks[k]∈ks:=List.getElem_mem hlt
    have hxs:=hsz _ hmem
    have hx30:=hr30 _ hmem
    have hgs:(ks.map (·.sum))[k]?=some ks[k].sum:=by simp [hlt]
    have hcell:∀j,j<8->wr.cell? ⟨og,k *8+j,none⟩=some (.int .u8 (kB ks[k].sum j)):=fun j hj=>(ho.cellAt _ (by omega)).trans (cells8_get hgs hj)
    obtain ⟨ra,rc,hfk,HRA⟩:∃ra rc,f (keyL ks[k].sum)=some (keptV ks[k] ra rc)/\Hid (SRow w w.heap.size ra ks[k].refs):=by
     rcases hH _ hxs with ⟨_,hno⟩|⟨u,ra,rc,hu,hus,hfu,hrv⟩
     ·exact absurd ⟨_,hmem,rfl⟩ hno
     ·obtain rfl:=sum_uniq hnd hu hmem hus
      exact ⟨ra,rc,hfu,hrv.row⟩
    have hlk:∀X,Below wr.heap.size wr X->(Instr.lookup 126 (.map (some m)) (keyV ks[k].sum) false).run Tryz.prog X=.ok (keptV ks[k] ra rc) X:=fun X hX=>by
     have:=(hM.keep (hbel.trans (hX.mono hzr)) hM.lt).look keyed Tryz.underlying126 (zeroKept _) (key_lit ks[k].sum)
     rw [hfk] at this
     exact this
    have dr:CellsAt wr d _:=CellsAt.below HD.out.box hbel
    have hc0:=hcell 0 (by omega)
    have hc1:=hcell 1 (by omega)
    have hc2:=hcell 2 (by omega)
    have hc3:=hcell 3 (by omega)
    have hc4:=hcell 4 (by omega)
    have hc5:=hcell 5 (by omega)
    have hc6:=hcell 6 (by omega)
    have hc7:=hcell 7 (by omega)
    rw [Nat.add_zero] at hc0
    have HX:Hid (ks.take (k+1)=ks.take k++[ks[k]]):=List.take_succ_eq_append_getElem hlt
    unfold keyV keyA keptV at hlk
    clear ho hcell hgs hH hfk hmem hM
    generalize ks[k]=x at *
    obtain ⟨W1,hW1⟩:∃W1,W1=wr.alloc (.cells #[.int .u8 (kB x.sum 0),.int .u8 (kB x.sum 1),.int .u8 (kB x.sum 2),.int .u8 (kB x.sum 3),.int .u8 (kB x.sum 4),.int .u8 (kB x.sum 5),.int .u8 (kB x.sum 6),.int .u8 (kB x.sum 7)] 139):=⟨_,rfl⟩
    have b1:Below wr.heap.size wr W1:=by rw [hW1];exact (Below.refl _ _).alloc (Nat.le_refl _) _
    have z1:W1.heap.size=wr.heap.size+1:=by rw [hW1];simp
    have K1:CellsAt W1 wr.heap.size [.int .u8 (kB x.sum 0),.int .u8 (kB x.sum 1),.int .u8 (kB x.sum 2),.int .u8 (kB x.sum 3),.int .u8 (kB x.sum 4),.int .u8 (kB x.sum 5),.int .u8 (kB x.sum 6),.int .u8 (kB x.sum 7)]:=by rw [hW1];exact CellsAt.new wr _ _
    have HSS:Hid (∀X,Below W1.heap.size W1 X->X.cell? ⟨d,1,none⟩=some (.map (some m))/\(X.cell? ⟨wr.heap.size,0,none⟩=some (.int .u8 (kB x.sum 0))/\X.cell? ⟨wr.heap.size,1,none⟩=some (.int .u8 (kB x.sum 1))/\X.cell? ⟨wr.heap.size,2,none⟩=some (.int .u8 (kB x.sum 2))/\X.cell? ⟨wr.heap.size,3,none⟩=some (.int .u8 (kB x.sum 3))/\X.cell? ⟨wr.heap.size,4,none⟩=some (.int .u8 (kB x.sum 4))/\X.cell? ⟨wr.heap.size,5,none⟩=some (.int .u8 (kB x.sum 5))/\X.cell? ⟨wr.heap.size,6,none⟩=some (.int .u8 (kB x.sum 6))/\X.cell? ⟨wr.heap.size,7,none⟩=some (.int .u8 (kB x.sum 7)))/\(Instr.lookup 126 (.map (some m)) (.agg #[.int .u8 (kB x.sum 0),.int .u8 (kB x.sum 1),.int .u8 (kB x.sum 2),.int .u8 (kB x.sum 3),.int .u8 (kB x.sum 4),.int .u8 (kB x.sum 5),.int .u8 (kB x.sum 6),.int .u8 (kB x.sum 7)]) false).run Tryz.prog X=.ok (.agg #[.string x.sum,.int .i64 x.born,.string x.text,.slice ra x.refs.length rc]) X):=
     fun X hX=>⟨((dr.below (b1.trans (hX.mono b1.size))) 1 _ rfl).1,sk8 (hX.block _ (by omega)) K1,hlk X (b1.trans (hX.mono b1.size))⟩
    have D0:Below W1.heap.size W1 W1.drew:=(Below.refl _ _).drew
    have D1:∀o,Below W1.heap.size W1 (W1.alloc o).drew:=fun o=>((Below.refl _ _).alloc (Nat.le_refl _) _).drew
    have HW1:Hid _:=hW1
    have Hz1:Hid _:=z1
    have HB1:Hid _:=b1
    clear hW1 z1 hlk K1 b1 dr
    go_upto_region 5 with fail
    rw [←HW1.out]
    clear HW1 hc0 hc1 hc2 hc3 hc4 hc5 hc6 hc7
    go_region_held3 (fun X=>X.cell? ⟨d,1,none⟩=some (.map (some m))/\(X.cell? ⟨wr.heap.size,0,none⟩=some (.int .u8 (kB x.sum 0))/\X.cell? ⟨wr.heap.size,1,none⟩=some (.int .u8 (kB x.sum 1))/\X.cell? ⟨wr.heap.size,2,none⟩=some (.int .u8 (kB x.sum 2))/\X.cell? ⟨wr.heap.size,3,none⟩=some (.int .u8 (kB x.sum 3))/\X.cell? ⟨wr.heap.size,4,none⟩=some (.int .u8 (kB x.sum 4))/\X.cell? ⟨wr.heap.size,5,none⟩=some (.int .u8 (kB x.sum 5))/\X.cell? ⟨wr.heap.size,6,none⟩=some (.int .u8 (kB x.sum 6))/\X.cell? ⟨wr.heap.size,7,none⟩=some (.int .u8 (kB x.sum 7)))/\(Instr.lookup 126 (.map (some m)) (.agg #[.int .u8 (kB x.sum 0),.int .u8 (kB x.sum 1),.int .u8 (kB x.sum 2),.int .u8 (kB x.sum 3),.int .u8 (kB x.sum 4),.int .u8 (kB x.sum 5),.int .u8 (kB x.sum 6),.int .u8 (kB x.sum 7)]) false).run Tryz.prog X=.ok (.agg #[.string x.sum,.int .i64 x.born,.string x.text,.slice ra x.refs.length rc]) X)
     (first|with_reducible exact HSS.out _ D0|with_reducible exact HSS.out _ (D1 _))
     (fail)
    all_goals
     clear HSS D0 D1
     obtain ⟨W2,hW2⟩:∃W2,W2=(W1.alloc (.cells #[.string x.sum,.int .i64 x.born,.string x.text,.slice ra x.refs.length rc] 114)).drew:=⟨_,rfl⟩
     have b2:Below W1.heap.size W1 W2:=by rw [hW2];exact ((Below.refl _ _).alloc (Nat.le_refl _) _).drew
     have z2:W2.heap.size=W1.heap.size+1:=by rw [hW2];simp
     have K2:CellsAt W2 W1.heap.size [.string x.sum,.int .i64 x.born,.string x.text,.slice ra x.refs.length rc]:=by rw [hW2];exact CellsAt.new W1 _ _
     have z1:=Hz1.out
     have b12:Below wr.heap.size wr W2:=HB1.out.trans (b2.mono (by omega))
     have R2:SRow W2 W2.heap.size ra x.refs:=SRow.mono (SRow.below HRA.out (hbel.trans (b12.mono hzr))) (by omega)
     rw [←hW2]
     obtain ⟨k3,_⟩:=K2 3 _ rfl
     have Hz2:Hid _:=z2
     have hr3:x.refs.length<=1048576:=by omega
     clear hW2 z1 z2
     go_wp2_with fail
     refine (cloneStr_any ra rc x.refs W2 R2 hr3).mono ?_
     rintro e w3 ⟨a3,c3,rfl,ho3,hb3⟩
     clear k3
     have z1:=Hz1.out
     have z2:=Hz2.out
     have b13:Below wr.heap.size wr w3:=b12.trans (hb3.mono (by omega))
     have z3:=hb3.size
     obtain ⟨i1,i2,i3,i4,i5,i6,i7,i8⟩:=HI.out
     have zW:=HzW.out
     have S3:=CellsAt.below i1 b13
     obtain ⟨ta,tc,rfl⟩:=own_val i3
     obtain ⟨s4,f4⟩:=S3 4 _ rfl
     have hsb:sb<wr.heap.size:=i1.lt
     have hne1:¬sb=W1.heap.size:=by omega
     have hne2:¬W1.heap.size=sb:=by omega
     obtain ⟨k0,_⟩:=CellsAt.below K2 hb3 0 _ rfl
     obtain ⟨k1,_⟩:=CellsAt.below K2 hb3 1 _ rfl
     obtain ⟨k2,_⟩:=CellsAt.below K2 hb3 2 _ rfl
     obtain ⟨k3,g3⟩:=CellsAt.below K2 hb3 3 _ rfl
     have HT3:Hid _:=own_below i3 b13
     have hTl:∀g,(Value.slice ta k tc).ownBlock=some g->W.heap.size<=g/\g<wr.heap.size:=fun g hg=>own_lt i3 hg
     have h3l:∀g,(Value.slice a3 x.refs.length c3).ownBlock=some g->W2.heap.size<=g/\g<w3.heap.size:=fun g hg=>own_lt ho3 hg
     have HO3:Hid _:=ho3
     have HB13:Hid _:=b13
     have HS3:Hid _:=S3
     have hz3':W.heap.size<=w3.heap.size:=by omega
     obtain ⟨i0,hi,hz0,hz1,hz2⟩:=info_parts Tryz.infoKept
     have Hz3:Hid _:=z3
     clear K2 b2 b12 R2 i1 i2 i3 i4 i5 i6 i7 i8 hb3 ho3 b13 S3 z1 z2 z3 zW
     go_wp2_with (first
      |(at_builtin;refine wpList_append_own_at _ rfl _ _ 24 rfl W.heap.size 114 i0 _ 4 64 Tryz.underlying24 hi hz0 hz1 hz2 rfl (by decide) _ k (rowC kC ((ks.take k).zip rs)) rfl ?d0 ⟨w3.heap.size,0,none⟩ 1 1 (kC (x,.slice a3 x.refs.length c3)) rfl rfl ?d2 ?d3 ?d4 ?d5 ?d6 ?_)
      |go_in)
     case d0=>exact own_below (own_set HT3.out (fun g hg=>by have:=hTl g hg;have:=Hz1.out;omega) 3 _) ((Below.refl _ _).alloc (Nat.le_refl _) _)
     case d2=>
      intro j u hu
      rw [Go.WideShapes.add_plain,Nat.zero_add]
      have:=(CellsAt.new (w3.setCell ⟨W1.heap.size,3,none⟩ (.slice a3 x.refs.length c3)) (kC (x,.slice a3 x.refs.length c3)) 114) j u hu
      simpa [kC] using this.1
     case d3=>
      intro u hu
      simp [kC] at hu
      rcases hu with rfl|rfl|rfl|rfl<;>rfl
     case d4=>unfold maxLen;omega
     case d5=>omega
     case d6=>simp;omega
     intro v4 w4 ho4 hg4 hn4 ha4
     obtain ⟨g4,c4,rfl,hg4a,hg4b⟩:=own_form ho4 (fun e=>by subst e;rcases ho4.2 with ⟨_,hn⟩|⟨_,_,_,e,_⟩<;>first|omega|cases e)
     obtain ⟨i1,i2,i3,i4,i5,i6,i7,i8⟩:=HI.out
     have nf:=nd_facts0 i8
     have z1:=Hz1.out
     have z2:=Hz2.out
     have z3:=Hz3.out
     have zW:=HzW.out
     have hX:∀b,b<w3.heap.size->b≠W1.heap.size->(Value.slice ta k tc).ownBlock≠some b->w4.heap[b]?=w3.heap[b]?:=fun b hb hb1 hb2=>by
      rw [hg4.block b (by simp;omega) (fun e=>hb2 e.symm),Below.heap_alloc _ _ _ (by simp;omega),Below.heap_setCell _ _ _ _ (by simpa using hb1)]
     have S4:=CellsAt.same HS3.out (hX sb (by omega) hne1 (fun e=>nf.1 _ e rfl))
     obtain ⟨_,f4'⟩:=S4 4 _ rfl
     obtain ⟨s4',_⟩:=S4 4 _ rfl
     have hg4n:g4≠sb:=by
      rcases ha4 with ha|ha
      ·exact nf.1 g4 ha.symm
      ·simp [Value.ownBlock] at ha;omega
     have HF:Hid _:=And.intro S4 (And.intro hX (And.intro ho4 (And.intro ha4 hg4)))
     clear S4 hX ho4 ha4 hg4 i1 i2 i3 i4 i5 i6 i7 i8 nf z1 z2 z3 zW s4 f4 k0 k1 k2 k3 g3 hn4
     go_wp2
     obtain ⟨S4,hX,ho4,ha4,hg4⟩:=HF.out
     obtain ⟨i1,i2,i3,i4,i5,i6,i7,i8⟩:=HI.out
     have nf:=nd_facts0 i8
     have z1:=Hz1.out
     have z2:=Hz2.out
     have z3:=Hz3.out
     have zW:=HzW.out
     have hY:∀b,b<w3.heap.size->b≠W1.heap.size->b≠sb->(Value.slice ta k tc).ownBlock≠some b->(w4.setCell ⟨sb,4,none⟩ (.slice (some ⟨g4,0,none⟩) (k+1) c4)).heap[b]?=w3.heap[b]?:=fun b h1 h2 h3 h4=>(Below.heap_setCell _ _ _ _ (by simpa using h3)).trans (hX b h1 h2 h4)
     have hYr:∀b,b<wr.heap.size->b≠sb->(Value.slice ta k tc).ownBlock≠some b->(w4.setCell ⟨sb,4,none⟩ (.slice (some ⟨g4,0,none⟩) (k+1) c4)).heap[b]?=wr.heap[b]?:=fun b h1 h3 h4=>(hY b (by omega) (by omega) h3 h4).trans (HB13.out.block b h1)
     have rlt:∀r∈rs,∀g,r.ownBlock=some g->g<wr.heap.size:=by
      intro r hr g hg
      obtain ⟨i,hi⟩:=List.getElem?_of_mem hr
      have hil:i<k:=by have:=(List.getElem?_eq_some_iff.1 hi).1;omega
      exact (own_lt (i5 i _ r (by rw [List.getElem?_take_of_lt hil];exact List.getElem?_eq_getElem (by omega)) hi) hg).2
     refine ⟨⟨k+1,.slice (some ⟨g4,0,none⟩) (k+1) c4,rs++[.slice a3 x.refs.length c3],by omega,by go_num,⟨CellsAt.set S4 4 _,?_,?_,?_,?_,?_,?_,?_⟩,?_⟩,by simp [intOf];omega⟩
     ·exact CellsAt.same i2 (hYr w.heap.size (by omega) (by omega) (fun e=>by have:=(hTl _ e).1;omega))
     ·rw [HX.out,List.zip_append (by rw [i4,List.length_take];omega),row_append]
      exact own_set ho4 (fun g hg=>by simp [Value.ownBlock] at hg;omega) 4 _
     ·simp [i4]
     ·intro i y r hy hr
      rw [HX.out] at hy
      have hkl2:(ks.take k).length=k:=by rw [List.length_take];omega
      rcases Nat.lt_or_ge i k with h|h
      ·rw [List.getElem?_append_left (by omega)] at hy hr
       refine own_same (i5 i y r hy hr) (fun g hg=> ?_)
       have:=nf.2.2.2 g (List.mem_filterMap.2 ⟨r,List.mem_of_getElem? hr,hg⟩)
       exact hYr g (rlt r (List.mem_of_getElem? hr) g hg) this.1 this.2
      ·have hik:i=k:=by have:=(List.getElem?_eq_some_iff.1 hr).1;simp at this;omega
       subst hik
       rw [List.getElem?_append_right (by omega),hkl2,Nat.sub_self] at hy
       rw [List.getElem?_append_right (by omega),i4,Nat.sub_self] at hr
       simp at hy hr
       subst hy
       subst hr
       refine own_same (World.ownsRow.mono HO3.out (by omega)) (fun g hg=> ?_)
       have:=h3l g hg
       exact hY g this.2 (by omega) (by omega) (fun e=>by have:=(hTl g e).2;omega)
     ·exact own_same i6 (fun g hg=>hYr g (own_lt i6 hg).2 (nf.2.1 g hg).1 (nf.2.1 g hg).2)
     ·exact own_same i7 (fun g hg=>hYr g (own_lt i7 hg).2 (nf.2.2.1 g hg).1 (nf.2.2.1 g hg).2)
     ·unfold blks
      rw [List.filterMap_append]
      have hfl:List.filterMap Value.ownBlock [.slice a3 x.refs.length c3]=(Value.slice a3 x.refs.length c3).ownBlock.toList:=by cases h:(Value.slice a3 x.refs.length c3).ownBlock<;>simp [h]
      rw [hfl]
      refine nd_step (n:=wr.heap.size) i8 ?_ (fun g hg=>by have:=(h3l g hg).1;omega) ?_
      ·intro b hb
       simp only [List.mem_cons,List.mem_append,Option.mem_toList,List.mem_filterMap] at hb
       rcases hb with rfl|hb|hb|hb|⟨r,hr,hb⟩
       ·exact hsb
       ·exact (hTl _ hb).2
       ·exact (own_lt i6 hb).2
       ·exact (own_lt i7 hb).2
       ·exact rlt r hr b hb
      ·rcases ha4 with ha|ha
       ·exact .inl ha
       ·refine .inr ⟨w3.heap.size+1,by simpa using ha,by omega,fun g hg=>by have:=(h3l g hg).2;omega⟩
     ·have hq:Below w.heap.size w w3:=hbel.trans (HB13.out.mono hzr)
      exact (((hq.setCell (by simp;omega) _).alloc (by simp;omega) _).grown hg4 (by simp;omega) (fun g hg=>by have:=(hTl g hg).1;omega)).setCell (by simp;omega) _
   ·obtain rfl:k=ks.length:=by omega
    obtain ⟨i1,i2,i3,i4,i5,i6,i7,i8⟩:=HI.out
    have zW:=HzW.out
    obtain ⟨⟨y0,q0⟩,⟨y1,q1⟩,⟨y2,q2⟩,⟨y3,q3⟩,⟨y4,q4⟩,⟨y5,q5⟩,y6,q6⟩:=z7at i2
    obtain ⟨ta,tc,rfl⟩:=own_val i3
    obtain ⟨x0,_⟩:=i1 0 _ rfl
    obtain ⟨x1,_⟩:=i1 1 _ rfl
    obtain ⟨x2,_⟩:=i1 2 _ rfl
    obtain ⟨x3,_⟩:=i1 3 _ rfl
    obtain ⟨x4,_⟩:=i1 4 _ rfl
    obtain ⟨x5,_⟩:=i1 5 _ rfl
    obtain ⟨x6,_⟩:=i1 6 _ rfl
    have hsne:¬sb=w.heap.size:=by omega
    have hsne':¬w.heap.size=sb:=by omega
    have HI':Hid _:=And.intro i2 (And.intro i3 (And.intro i4 (And.intro i5 (And.intro i6 (And.intro i7 i8)))))
    clear i1 i2 i3 i4 i5 i6 i7 i8 zW
    go_wp2
    have zW:=HzW.out
    have hap:∀{e:TypeId} {size:Nat} {v:Value} {n:Nat} {xs:List Value},wr.ownsRow W.heap.size e size v n xs->(((((((wr.setCell ⟨w.heap.size,0,none⟩ (.int .i64 wd)).setCell ⟨w.heap.size,1,none⟩ (.int .i64 now)).setCell ⟨w.heap.size,2,none⟩ (.int .i64 given)).setCell ⟨w.heap.size,3,none⟩ (.int .i64 births)).setCell ⟨w.heap.size,4,none⟩ (.slice ta ks.length tc)).setCell ⟨w.heap.size,5,none⟩ (.slice a1 ps.length c1)).setCell ⟨w.heap.size,6,none⟩ (.slice a2 ls.length c2)).ownsRow w.heap.size e size v n xs:=fun h=>World.ownsRow.mono (own_set7 h (fun g hg=>by have:=(own_lt h hg).1;omega) _ _ _ _ _ _ _) (by omega)
    have htk:ks.take ks.length=ks:=List.take_of_length_le (Nat.le_refl _)
    refine bodyPost_ret (v:=.agg #[.int .i64 wd,.int .i64 now,.int .i64 given,.int .i64 births,.slice ta ks.length tc,.slice a1 ps.length c1,.slice a2 ls.length c2]) (by simp [results,Tryz.results47,go_sem,y0,y1,y2,y3,y4,y5,y6]) rfl ⟨_,_,_,rs,rfl,⟨HI'.out.2.2.1,?_,?_,hap HI'.out.2.2.2.2.1,hap HI'.out.2.2.2.2.2.1,?_⟩,below_set7 hbel (Nat.le_refl _) _ _ _ _ _ _ _⟩
    ·have:=HI'.out.2.1
     rw [htk] at this
     exact hap this
    ·intro i y r hy hr
     exact hap (HI'.out.2.2.2.1 i y r (by rw [htk];exact hy) hr)
    ·rw [blks_eq]
     exact (List.nodup_cons.1 HI'.out.2.2.2.2.2.2).2
end Go.Proofs.YtpekbmegopfhfaaGreatDoor
namespace Go.Proofs.YtpekbmegopfhfaaGreatDoor
open Go.ChangeShapes Go.WideShapes Go.ChangeAt Go.RowKit
def kI (s:ByteArray):List Int:=[kB s 0,kB s 1,kB s 2,kB s 3,kB s 4,kB s 5,kB s 6,kB s 7]
def kCmp (s t:ByteArray):Int:=Lib.compareBytes (Lib.bytesOf (kI s)) (Lib.bytesOf (kI t))
theorem cb_refl (x:List UInt8):Lib.compareBytes x x=0:=by
 induction x with
 |nil=>rfl
 |cons a x ih=>unfold Lib.compareBytes;simp [ih,UInt8.lt_irrefl]
theorem cb_app (z:List UInt8):∀(x y:List UInt8),x.length=y.length->Lib.compareBytes (x++z) (y++z)=Lib.compareBytes x y
 |[],[],_=>by rw [List.nil_append,cb_refl];rfl
 |a::x,b::y,h=>by
  have ih:=cb_app z x y (by simpa using h)
  show Lib.compareBytes (a::(x++z)) (b::(y++z))=_
  unfold Lib.compareBytes
  rw [ih]
theorem cb_neg:∀(x y:List UInt8),x.length=y.length->(Lib.compareBytes x y<0↔x<y)
 |[],[],_=>by simp [Lib.compareBytes]
 |a::x,b::y,h=>by
  have ih:=cb_neg x y (by simpa using h)
  unfold Lib.compareBytes
  rw [List.cons_lt_cons_iff,←ih]
  by_cases h1:a<b
  ·simp [h1]
  ·by_cases h2:b<a
   ·have:¬a=b:=fun e=>by subst e;exact absurd h2 (UInt8.lt_irrefl _)
    simp [h1,h2,this]
   ·have:a=b:=UInt8.le_antisymm (UInt8.not_lt.1 h2) (UInt8.not_lt.1 h1)
    simp [this]
theorem cb_zero:∀(x y:List UInt8),x.length=y.length->(Lib.compareBytes x y=0↔x=y)
 |[],[],_=>by simp [Lib.compareBytes]
 |a::x,b::y,h=>by
  have ih:=cb_zero x y (by simpa using h)
  unfold Lib.compareBytes
  by_cases h1:a<b
  ·have:¬a=b:=fun e=>by subst e;exact absurd h1 (UInt8.lt_irrefl _)
   simp [h1,this]
  ·by_cases h2:b<a
   ·have:¬a=b:=fun e=>by subst e;exact absurd h2 (UInt8.lt_irrefl _)
    simp [h1,h2,this]
   ·have:a=b:=UInt8.le_antisymm (UInt8.not_lt.1 h2) (UInt8.not_lt.1 h1)
    simp [this,ih]
theorem kI_pad (s:ByteArray) (h:s.size<=8):Lib.bytesOf (kI s)=s.data.toList++List.replicate (8 -s.size) 0:=by
 have hl:s.data.toList.length=s.size:=data_length s
 have hb:∀i,(kB s i).toNat.toUInt8=(s.data.toList[i]?).getD 0:=fun i=>by
  unfold kB
  simp
 unfold kI Lib.bytesOf
 simp only [List.map_cons,List.map_nil,hb]
 apply List.ext_getElem?
 intro i
 rw [List.getElem?_append]
 rw [hl]
 rcases Nat.lt_or_ge i 8 with h8|h8
 ·have e:([(s.data.toList[0]?).getD 0,(s.data.toList[1]?).getD 0,(s.data.toList[2]?).getD 0,(s.data.toList[3]?).getD 0,(s.data.toList[4]?).getD 0,(s.data.toList[5]?).getD 0,(s.data.toList[6]?).getD 0,(s.data.toList[7]?).getD 0]:List UInt8)[i]?=some ((s.data.toList[i]?).getD 0):=by
   rcases (show i=0∨i=1∨i=2∨i=3∨i=4∨i=5∨i=6∨i=7 by omega) with rfl|rfl|rfl|rfl|rfl|rfl|rfl|rfl<;>rfl
  rw [e]
  by_cases hi:i<s.size
  ·rw [if_pos hi,List.getElem?_eq_getElem (by omega)]
   rfl
  ·rw [if_neg hi,List.getElem?_eq_none (by omega),List.getElem?_replicate,if_pos (by omega)]
   rfl
 ·rw [List.getElem?_eq_none (by simp;omega),if_neg (by omega),List.getElem?_eq_none (by simp;omega)]
theorem kCmp_neg {s t:ByteArray} (hs:s.size<=8) (ht:t.size=s.size):kCmp s t<0↔less s t=true:=by
 unfold kCmp less
 rw [kI_pad s hs,kI_pad t (by omega),ht,cb_app _ _ _ (by rw [data_length,data_length,ht]),cb_neg _ _ (by rw [data_length,data_length,ht]),ByteArray.toList_eq,ByteArray.toList_eq,bl_iff]
theorem kCmp_zero {s t:ByteArray} (hs:s.size<=8) (ht:t.size=s.size):kCmp s t=0↔s=t:=by
 unfold kCmp
 rw [kI_pad s hs,kI_pad t (by omega),ht,cb_app _ _ _ (by rw [data_length,data_length,ht]),cb_zero _ _ (by rw [data_length,data_length,ht])]
 constructor
 ·intro h
  exact toList_inj (by rw [ByteArray.toList_eq,ByteArray.toList_eq];exact h)
 ·rintro rfl
  rfl
theorem kI_cells {w:World} {b:Nat} {s:ByteArray} (h:CellsAt w b (kCells s)):∀j x,(kI s)[j]?=some x->w.cell? ((⟨b,0,none⟩:Addr).add j)=some (.int .u8 x):=by
 intro j x hx
 rw [Go.WideShapes.add_plain,Nat.zero_add]
 have hj:j<8:=(List.getElem?_eq_some_iff.1 hx).1
 refine (h j (.int .u8 x) ?_).1
 unfold kCells keyA
 unfold kI at hx
 rcases (show j=0∨j=1∨j=2∨j=3∨j=4∨j=5∨j=6∨j=7 by omega) with rfl|rfl|rfl|rfl|rfl|rfl|rfl|rfl<;>(simp at hx;subst hx;rfl)
theorem run_cmpKeys (w:World) (a b:Nat) (s t:ByteArray) (ha:CellsAt w a (kCells s)) (hb:CellsAt w b (kCells t)):
 (callFunc 255 #[.slice (some ⟨a,0,none⟩) 8 8,.slice (some ⟨b,0,none⟩) 8 8]).run Tryz.prog w=.ok (.value (.int .i64 (kCmp s t))) w:=by
 rw [run_callFunc_extern (fn:=Tryz.f255) (e:=Extern.BytealgCompare.compare) Tryz.func255 (by kernel_rfl) (by kernel_rfl) (by kernel_rfl) (by kernel_rfl)]
 have h1:=Lib.run_loadBytesX (P:=Tryz.prog) w (kI s) ⟨a,0,none⟩ .empty (kI_cells ha)
 have h2:=Lib.run_loadBytesX (P:=Tryz.prog) w (kI t) ⟨b,0,none⟩ .empty (kI_cells hb)
 have he:∀l:List UInt8,(⟨ByteArray.empty.data++l.toArray⟩:ByteArray)=⟨l.toArray⟩:=fun l=>by
  apply ByteArray.ext
  show (#[]:Array UInt8)++l.toArray=l.toArray
  simp
 rw [he] at h1 h2
 change (Sem.run Tryz.prog (do pure (goInt (Extern.BytealgCompare.cmp (←Extern.Bytes.bytesOf (.slice (some ⟨a,0,none⟩) 8 8)) (←Extern.Bytes.bytesOf (.slice (some ⟨b,0,none⟩) 8 8))))) w).andThen _=_
 simp only [Extern.Bytes.bytesOf,Sem.run_bind,Sem.run_pure]
 rw [show (8:Nat)=(kI s).length from rfl,h1]
 rw [Result.andThen_ok,show (kI s).length=(kI t).length from rfl,h2]
 simp only [Result.andThen]
 rw [Lib.cmp_eq]
 rfl
set_option maxHeartbeats 400000 in
theorem bytesCompare_any (w:World) (a b:Nat) (s t:ByteArray) (ha:CellsAt w a (kCells s)) (hb:CellsAt w b (kCells t)):
 Calls Tryz.prog 241 #[.slice (some ⟨a,0,none⟩) 8 8,.slice (some ⟨b,0,none⟩) 8 8] w fun e w'=>e=.returned (.int .i64 (kCmp s t))/\w'=w:=by
 have hr:=run_cmpKeys w a b s t ha hb
 clear ha hb
 go_enter Tryz.func241,Tryz.ntmps241
 go_wp2
 go_ret
 exact ⟨rfl,rfl⟩
set_option maxRecDepth 20000 in
set_option maxHeartbeats 1000000 in
theorem cmpKey_any (s t:ByteArray) (w:World):
 Calls Tryz.prog 240 #[keyV s,keyV t] w fun e w'=>e=.returned (.int .i64 (kCmp s t))/\Below w.heap.size w w':=by
 obtain ⟨W,hW⟩:∃W,W=(w.alloc (.cells #[.int .u8 (kB s 0),.int .u8 (kB s 1),.int .u8 (kB s 2),.int .u8 (kB s 3),.int .u8 (kB s 4),.int .u8 (kB s 5),.int .u8 (kB s 6),.int .u8 (kB s 7)] 139)).alloc (.cells #[.int .u8 (kB t 0),.int .u8 (kB t 1),.int .u8 (kB t 2),.int .u8 (kB t 3),.int .u8 (kB t 4),.int .u8 (kB t 5),.int .u8 (kB t 6),.int .u8 (kB t 7)] 139):=⟨_,rfl⟩
 have hB:Below w.heap.size w W:=by rw [hW];exact ((Below.refl _ _).alloc (Nat.le_refl _) _).alloc (by simp) _
 have ca:CellsAt W w.heap.size (kCells s):=by
  rw [hW]
  exact CellsAt.below (v:=.int .u8 (kB s 0)) (CellsAt.new w (kCells s) 139) ((Below.refl _ _).alloc (Nat.le_refl _) _)
 have cb:CellsAt W (w.heap.size+1) (kCells t):=by
  have:=CellsAt.new (w.alloc (.cells #[.int .u8 (kB s 0),.int .u8 (kB s 1),.int .u8 (kB s 2),.int .u8 (kB s 3),.int .u8 (kB s 4),.int .u8 (kB s 5),.int .u8 (kB s 6),.int .u8 (kB s 7)] 139)) (kCells t) 139
  rw [World.size_alloc] at this
  rw [hW]
  exact this
 have HC:Hid (CellsAt W.drew w.heap.size (kCells s)/\CellsAt W.drew (w.heap.size+1) (kCells t)):=⟨ca,cb⟩
 have HW:Hid _:=hW
 clear hW ca cb
 unfold keyV keyA
 go_enter Tryz.func240,Tryz.ntmps240
 go_upto_region 1 with fail
 rw [←HW.out]
 clear HW
 go_region_with (go_at_call 241;refine (bytesCompare_any W.drew w.heap.size (w.heap.size+1) s t HC.out.1 HC.out.2).mono ?_;rintro e w1 ⟨rfl,rfl⟩)
 all_goals
  go_wp2
  go_ret
  exact ⟨rfl,hB.drew⟩
structure PlaceAt (ss:List ByteArray) (s:ByteArray) (i:Nat):Prop where
 le:i<=ss.length
 lo:∀j x,j<i->ss[j]?=some x->less x s=true
 hi:∀j x,i<=j->ss[j]?=some x->less x s=false
theorem own_key {w:World} {base g cap:Nat} {ss:List ByteArray} (ho:w.ownsRow base 139 8 (.slice (some ⟨g,0,none⟩) ss.length cap) ss.length (cells8 ss)) {k:Nat} {s:ByteArray} (hs:ss[k]?=some s):∀j,j<8->w.cell? ⟨g,k *8+j,none⟩=some (.int .u8 (kB s j)):=fun j hj=>by
 have:=(List.getElem?_eq_some_iff.1 hs).1
 exact (ho.cellAt _ (by omega)).trans (cells8_get hs hj)
theorem row8 {w:World} {base g cap:Nat} {ss:List ByteArray} (ho:w.ownsRow base 139 8 (.slice (some ⟨g,0,none⟩) ss.length cap) ss.length (cells8 ss)) {k:Nat} {s:ByteArray} (hs:ss[k]?=some s):
 w.cell? ⟨g,k *8,none⟩=some (.int .u8 (kB s 0))/\w.cell? ⟨g,k *8+1,none⟩=some (.int .u8 (kB s 1))/\w.cell? ⟨g,k *8+2,none⟩=some (.int .u8 (kB s 2))/\w.cell? ⟨g,k *8+3,none⟩=some (.int .u8 (kB s 3))/\w.cell? ⟨g,k *8+4,none⟩=some (.int .u8 (kB s 4))/\w.cell? ⟨g,k *8+5,none⟩=some (.int .u8 (kB s 5))/\w.cell? ⟨g,k *8+6,none⟩=some (.int .u8 (kB s 6))/\w.cell? ⟨g,k *8+7,none⟩=some (.int .u8 (kB s 7)):=
 have h:=own_key ho hs
 ⟨by simpa using h 0 (by decide),h 1 (by decide),h 2 (by decide),h 3 (by decide),h 4 (by decide),h 5 (by decide),h 6 (by decide),h 7 (by decide)⟩
theorem box8 {w:World} {g:Nat} {s:ByteArray} (h:CellsAt w g (kCells s)):
 w.cell? ⟨g,0,none⟩=some (.int .u8 (kB s 0))/\w.cell? ⟨g,1,none⟩=some (.int .u8 (kB s 1))/\w.cell? ⟨g,2,none⟩=some (.int .u8 (kB s 2))/\w.cell? ⟨g,3,none⟩=some (.int .u8 (kB s 3))/\w.cell? ⟨g,4,none⟩=some (.int .u8 (kB s 4))/\w.cell? ⟨g,5,none⟩=some (.int .u8 (kB s 5))/\w.cell? ⟨g,6,none⟩=some (.int .u8 (kB s 6))/\w.cell? ⟨g,7,none⟩=some (.int .u8 (kB s 7)):=
 ⟨(h 0 _ rfl).1,(h 1 _ rfl).1,(h 2 _ rfl).1,(h 3 _ rfl).1,(h 4 _ rfl).1,(h 5 _ rfl).1,(h 6 _ rfl).1,(h 7 _ rfl).1⟩
set_option maxRecDepth 20000 in
set_option maxHeartbeats 4000000 in
theorem search_any (g cap:Nat) (ss:List ByteArray) (s:ByteArray) (w:World) (base:Nat) (ho:w.ownsRow base 139 8 (.slice (some ⟨g,0,none⟩) ss.length cap) ss.length (cells8 ss)) (hl:ss.length<=600) (hs8:s.size<=8) (hsz:∀x∈ss,x.size=s.size) (hsort:ss.Pairwise (fun a b=>less a b=true)):
 Calls Tryz.prog 239 #[.slice (some ⟨g,0,none⟩) ss.length cap,keyV s,.func (.func 240) #[] #[]] w fun e w'=>∃i:Nat,e=.returned (.tuple #[.int .i64 i,.bool (decide (ss[i]?=some s))])/\PlaceAt ss s i/\Below w.heap.size w w':=by
 unfold keyV keyA
 have hgl:g<w.heap.size:=(own_lt ho rfl).2
 obtain ⟨W,hW⟩:∃W,W=w.alloc (.cells #[.int .u8 (kB s 0),.int .u8 (kB s 1),.int .u8 (kB s 2),.int .u8 (kB s 3),.int .u8 (kB s 4),.int .u8 (kB s 5),.int .u8 (kB s 6),.int .u8 (kB s 7)] 139):=⟨_,rfl⟩
 have hB:Below w.heap.size w W:=by rw [hW];exact (Below.refl _ _).alloc (Nat.le_refl _) _
 have cb:CellsAt W w.heap.size (kCells s):=by rw [hW];exact CellsAt.new w (kCells s) 139
 have hoW:=own_below ho hB
 have HW:Hid _:=hW
 have HO:Hid _:=hoW
 have HC:Hid _:=cb
 have hzW:w.heap.size<W.heap.size:=CellsAt.lt (v:=.int .u8 (kB s 0)) cb
 clear hW hoW cb ho
 go_enter Tryz.func239,Tryz.ntmps239
 go_upto_region 1 with fail
 rw [←HW.out]
 clear HW
 have hef:∀args w,(callFunc 240 args).run Tryz.prog w=.ok (.enter 240 args) w:=enters_of Tryz.func240 (by kernel_rfl) rfl
 go_wp2
 go_loopw [9,10] (fun i j wr=>∃lo hi:Nat,i=.int .i64 lo/\j=.int .i64 hi/\lo<=hi/\hi<=ss.length/\Hid ((∀j x,j<lo->ss[j]?=some x->less x s=true)/\(∀j x,hi<=j->ss[j]?=some x->less x s=false))/\Below W.heap.size W wr) (fun i j _=>(intOf j).toNat -(intOf i).toNat)
 case atStart=>exact ⟨0,ss.length,rfl,rfl,Nat.zero_le _,Nat.le_refl _,⟨fun j x h=>by omega,fun j x h hx=>by have:=(List.getElem?_eq_some_iff.1 hx).1;omega⟩,Below.refl _ _⟩
 case round=>
  obtain ⟨lo,hi,rfl,rfl,hlh,hin,HI,hbel⟩:=hrel
  have hzr:=hbel.size
  by_cases hlt:lo<hi
  ·have hml:(lo+hi)/2<ss.length:=by omega
   have HG:Hid (ss[(lo+hi)/2]?=some ss[(lo+hi)/2]):=List.getElem?_eq_getElem hml
   have hxs:=hsz _ (List.getElem_mem hml)
   generalize ss[(lo+hi)/2]=x at *
   obtain ⟨r0,r1,r2,r3,r4,r5,r6,r7⟩:=row8 (own_below HO.out hbel) HG.out
   obtain ⟨t0,t1,t2,t3,t4,t5,t6,t7⟩:=box8 (CellsAt.below (v:=.int .u8 (kB s 0)) HC.out hbel)
   have qr0:=Cls.cell r0 (show g<wr.heap.size by omega)
   have qr1:=Cls.cell r1 (show g<wr.heap.size by omega)
   have qr2:=Cls.cell r2 (show g<wr.heap.size by omega)
   have qr3:=Cls.cell r3 (show g<wr.heap.size by omega)
   have qr4:=Cls.cell r4 (show g<wr.heap.size by omega)
   have qr5:=Cls.cell r5 (show g<wr.heap.size by omega)
   have qr6:=Cls.cell r6 (show g<wr.heap.size by omega)
   have qr7:=Cls.cell r7 (show g<wr.heap.size by omega)
   have qt0:=Cls.cell t0 (show w.heap.size<wr.heap.size by omega)
   have qt1:=Cls.cell t1 (show w.heap.size<wr.heap.size by omega)
   have qt2:=Cls.cell t2 (show w.heap.size<wr.heap.size by omega)
   have qt3:=Cls.cell t3 (show w.heap.size<wr.heap.size by omega)
   have qt4:=Cls.cell t4 (show w.heap.size<wr.heap.size by omega)
   have qt5:=Cls.cell t5 (show w.heap.size<wr.heap.size by omega)
   have qt6:=Cls.cell t6 (show w.heap.size<wr.heap.size by omega)
   have qt7:=Cls.cell t7 (show w.heap.size<wr.heap.size by omega)
   have hne:=Cls.ne wr
   have HCC:Hid (∀m:Cls wr,Calls Tryz.prog 240 #[.agg #[.int .u8 (kB x 0),.int .u8 (kB x 1),.int .u8 (kB x 2),.int .u8 (kB x 3),.int .u8 (kB x 4),.int .u8 (kB x 5),.int .u8 (kB x 6),.int .u8 (kB x 7)],.agg #[.int .u8 (kB s 0),.int .u8 (kB s 1),.int .u8 (kB s 2),.int .u8 (kB s 3),.int .u8 (kB s 4),.int .u8 (kB s 5),.int .u8 (kB s 6),.int .u8 (kB s 7)]] m.w fun e w'=>e=.returned (.int .i64 (kCmp x s))/\Below m.w.heap.size m.w w'):=fun m=>cmpKey_any x s m.w
   clear r0 r1 r2 r3 r4 r5 r6 r7 t0 t1 t2 t3 t4 t5 t6 t7
   have hcn:Hid (kCmp x s<0↔less x s=true):=kCmp_neg (s:=x) (t:=s) (by omega) (by omega)
   by_cases hc:kCmp x s<0
   ·have hd:decide (kCmp x s<0)=true:=by simpa using hc
    go_wp2
    refine region_cls_lit (by kernel_rfl) (by kernel_rfl) ?_
    repeat (go_big_quiet_step (exact Cls.calls (HCC.out _)))
    refine wpQuiet_nil ?_
    intro m
    clear qr0 qr1 qr2 qr3 qr4 qr5 qr6 qr7 qt0 qt1 qt2 qt3 qt4 qt5 qt6 qt7 HCC
    go_wp2
    refine ⟨⟨(lo+hi)/2+1,hi,by go_num,rfl,by omega,hin,⟨?_,HI.out.2⟩,hbel.trans (m.h.mono hzr)⟩,by simp [intOf];omega⟩
    intro j y hj hy
    rcases Nat.lt_or_ge j ((lo+hi)/2) with h|h
    ·have:=List.pairwise_iff_getElem.1 hsort j ((lo+hi)/2) (by omega) hml h
     obtain ⟨_,rfl⟩:=List.getElem?_eq_some_iff.1 hy
     obtain ⟨_,e⟩:=List.getElem?_eq_some_iff.1 HG.out
     rw [e] at this
     exact less_trans this (hcn.out.1 hc)
    ·obtain rfl:j=(lo+hi)/2:=by omega
     rw [HG.out] at hy
     cases hy
     exact hcn.out.1 hc
   ·have hd:decide (kCmp x s<0)=false:=by simpa using hc
    have HNC:Hid _:=hc
    clear hc
    go_wp2
    refine region_cls_lit (by kernel_rfl) (by kernel_rfl) ?_
    repeat (go_big_quiet_step (exact Cls.calls (HCC.out _)))
    refine wpQuiet_nil ?_
    intro m
    clear qr0 qr1 qr2 qr3 qr4 qr5 qr6 qr7 qt0 qt1 qt2 qt3 qt4 qt5 qt6 qt7 HCC
    go_wp2
    refine ⟨⟨lo,(lo+hi)/2,rfl,by go_num,by omega,by omega,⟨HI.out.1,?_⟩,hbel.trans (m.h.mono hzr)⟩,by simp [intOf];omega⟩
    have hxf:less x s=false:=by
     cases h:less x s with
     |false=>rfl
     |true=>exact absurd (hcn.out.2 h) HNC.out
    intro j y hj hy
    rcases Nat.lt_or_ge ((lo+hi)/2) j with h|h
    ·have hjl:=(List.getElem?_eq_some_iff.1 hy).1
     have:=List.pairwise_iff_getElem.1 hsort ((lo+hi)/2) j hml hjl h
     obtain ⟨_,rfl⟩:=List.getElem?_eq_some_iff.1 hy
     obtain ⟨_,e⟩:=List.getElem?_eq_some_iff.1 HG.out
     rw [e] at this
     cases h':less ss[j] s with
     |false=>rfl
     |true=>rw [less_trans this h'] at hxf;cases hxf
    ·obtain rfl:j=(lo+hi)/2:=by omega
     rw [HG.out] at hy
     cases hy
     exact hxf
  ·obtain rfl:lo=hi:=by omega
   have HP:Hid (PlaceAt ss s lo):=⟨hin,HI.out.1,HI.out.2⟩
   by_cases hn:lo<ss.length
   ·have HG:Hid (ss[lo]?=some ss[lo]):=List.getElem?_eq_getElem hn
    have hxs:=hsz _ (List.getElem_mem hn)
    generalize ss[lo]=x at *
    obtain ⟨r0,r1,r2,r3,r4,r5,r6,r7⟩:=row8 (own_below HO.out hbel) HG.out
    obtain ⟨t0,t1,t2,t3,t4,t5,t6,t7⟩:=box8 (CellsAt.below (v:=.int .u8 (kB s 0)) HC.out hbel)
    have qr0:=Cls.cell r0 (show g<wr.heap.size by omega)
    have qr1:=Cls.cell r1 (show g<wr.heap.size by omega)
    have qr2:=Cls.cell r2 (show g<wr.heap.size by omega)
    have qr3:=Cls.cell r3 (show g<wr.heap.size by omega)
    have qr4:=Cls.cell r4 (show g<wr.heap.size by omega)
    have qr5:=Cls.cell r5 (show g<wr.heap.size by omega)
    have qr6:=Cls.cell r6 (show g<wr.heap.size by omega)
    have qr7:=Cls.cell r7 (show g<wr.heap.size by omega)
    have qt0:=Cls.cell t0 (show w.heap.size<wr.heap.size by omega)
    have qt1:=Cls.cell t1 (show w.heap.size<wr.heap.size by omega)
    have qt2:=Cls.cell t2 (show w.heap.size<wr.heap.size by omega)
    have qt3:=Cls.cell t3 (show w.heap.size<wr.heap.size by omega)
    have qt4:=Cls.cell t4 (show w.heap.size<wr.heap.size by omega)
    have qt5:=Cls.cell t5 (show w.heap.size<wr.heap.size by omega)
    have qt6:=Cls.cell t6 (show w.heap.size<wr.heap.size by omega)
    have qt7:=Cls.cell t7 (show w.heap.size<wr.heap.size by omega)
    have hne:=Cls.ne wr
    have HCC:Hid (∀m:Cls wr,Calls Tryz.prog 240 #[.agg #[.int .u8 (kB x 0),.int .u8 (kB x 1),.int .u8 (kB x 2),.int .u8 (kB x 3),.int .u8 (kB x 4),.int .u8 (kB x 5),.int .u8 (kB x 6),.int .u8 (kB x 7)],.agg #[.int .u8 (kB s 0),.int .u8 (kB s 1),.int .u8 (kB s 2),.int .u8 (kB s 3),.int .u8 (kB s 4),.int .u8 (kB s 5),.int .u8 (kB s 6),.int .u8 (kB s 7)]] m.w fun e w'=>e=.returned (.int .i64 (kCmp x s))/\Below m.w.heap.size m.w w'):=fun m=>cmpKey_any x s m.w
    clear r0 r1 r2 r3 r4 r5 r6 r7 t0 t1 t2 t3 t4 t5 t6 t7
    have hcz:Hid (kCmp x s=0↔x=s):=kCmp_zero (s:=x) (t:=s) (by omega) (by omega)
    by_cases hc:kCmp x s=0
    ·have hd:(kCmp x s==0)=true:=by simpa using hc
     go_wp2
     refine region_cls_lit (by kernel_rfl) (by kernel_rfl) ?_
     repeat (go_big_quiet_step (exact Cls.calls (HCC.out _)))
     refine wpQuiet_nil ?_
     intro m
     clear qr0 qr1 qr2 qr3 qr4 qr5 qr6 qr7 qt0 qt1 qt2 qt3 qt4 qt5 qt6 qt7 HCC
     go_wp2
     go_ret2
     refine ⟨lo,?_,HP.out,hB.trans ((hbel.trans (m.h.mono hzr)).mono hB.size)⟩
     rw [HG.out,hcz.out.1 hc,decide_eq_true rfl]
     rfl
    ·have hd:(kCmp x s==0)=false:=by simpa using hc
     go_wp2
     refine region_cls_lit (by kernel_rfl) (by kernel_rfl) ?_
     repeat (go_big_quiet_step (exact Cls.calls (HCC.out _)))
     refine wpQuiet_nil ?_
     intro m
     clear qr0 qr1 qr2 qr3 qr4 qr5 qr6 qr7 qt0 qt1 qt2 qt3 qt4 qt5 qt6 qt7 HCC
     go_wp2
     go_ret2
     refine ⟨lo,?_,HP.out,hB.trans ((hbel.trans (m.h.mono hzr)).mono hB.size)⟩
     rw [HG.out,decide_eq_false (fun e=>hc (hcz.out.2 (Option.some.inj e)))]
     rfl
   ·have hne:=Cls.ne wr
    go_wp2
    refine region_cls_lit (by kernel_rfl) (by kernel_rfl) ?_
    repeat (go_big_quiet_step (fail))
    refine wpQuiet_nil ?_
    intro m
    go_wp2
    go_ret2
    refine ⟨lo,?_,HP.out,hB.trans ((hbel.trans (m.h.mono hzr)).mono hB.size)⟩
    rw [List.getElem?_eq_none (by omega),decide_eq_false (by simp)]
    rfl
end Go.Proofs.YtpekbmegopfhfaaGreatDoor
