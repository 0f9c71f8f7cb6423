import Derived.Test.YtpekbmegopfhfaaGreatDoorW13
namespace Go.Proofs.YtpekbmegopfhfaaGreatDoor
open Go.ChangeShapes Go.WideShapes Go.ChangeAt Go.RowKit
theorem own_type {w:World} {base:Nat} {e:TypeId} {size:Nat} {v:Value} {n:Nat} {xs:List Value} (h:w.ownsRow base e size v n xs) {g:Nat} (hg:v.ownBlock=some g):∃cur,w.heap[g]?=some (.cells cur e):=by
 rcases h.2 with ⟨rfl,_⟩|⟨g',cap,cur,rfl,_,hc,_⟩
 ·cases hg
 ·cases hg
  exact ⟨cur,hc⟩
theorem DU.notin {w:World} {base d m:Nat} {O P L:Value} {wd now given births:Int} {ks:List Kd} {ps:List Pd} {ls:List Ld} (h:DU w base d m O P L wd now given births ks ps ls) {R:Nat} {cur:Array Value} (hR:w.heap[R]?=some (.cells cur 30)) (hd:R≠d):R∉vB d m O P L/\NS w R:=by
 refine ⟨fun hv=> ?_,fun cur fz e=>by rw [hR] at e;cases e⟩
 unfold vB at hv
 simp only [List.mem_cons,List.mem_append,Option.mem_toList] at hv
 rcases hv with hv|hv|hv|hv|hv
 ·exact hd hv
 ·obtain ⟨n,f,_,hM,_⟩:=h.dr.map
  obtain ⟨D,⟨es,clock,hes,_⟩,_⟩:=hM
  rw [←hv,hR] at hes
  cases hes
 ·obtain ⟨c,hc⟩:=own_type h.dr.ord hv
  rw [hR] at hc
  cases hc
 ·obtain ⟨c,hc⟩:=own_type h.dr.pin hv
  rw [hR] at hc
  cases hc
 ·obtain ⟨c,hc⟩:=own_type h.dr.lea hv
  rw [hR] at hc
  cases hc
set_option maxRecDepth 20000 in
set_option maxHeartbeats 4000000 in
theorem changeGive_yes (base d m:Nat) (O P L:Value) (wd now given births:Int) (ks:List Kd) (ps:List Pd) (ls:List Ld) (s nm tx:ByteArray) (num:Int) (ra:Option Addr) (rn rc:Nat) (w:World) (h:DU w base d m O P L wd now given births ks ps ls) (hl:ls.length<=200) (hsort:ls.Pairwise (fun a b=>a.num<b.num)) (hth:∃x∈ls,x.num=num):
 Calls Tryz.prog 139 #[.pointer (some ⟨d,0,none⟩),.agg #[.int .i64 5,.string s,.string nm,.int .i64 num,.string tx,.slice ra rn rc]] w fun e w'=>e=.returned (.agg z12.toArray)/\∃L',DU w' base d m O P L' wd now given births ks ps (giveL ls num)/\Tn (d::L.ownBlock.toList) w w':=by
 obtain ⟨W,hW⟩:∃W,W=((w.alloc (.cells #[.int .i64 5,.string s,.string nm,.int .i64 num,.string tx,.slice ra rn rc] 77)).alloc (.cells #[.int .i64 0,.int .i64 0,.int .i64 0,.int .i64 0,.int .i64 0,.slice none 0 0,.slice none 0 0,.slice none 0 0,.string ⟨#[]⟩,.int .i64 0,.string ⟨#[]⟩,.string ⟨#[]⟩] 30)).alloc (.cells #[.int .i64 0,.int .i64 0,.int .i64 0,.int .i64 0,.int .i64 0,.slice none 0 0,.slice none 0 0,.slice none 0 0,.string ⟨#[]⟩,.int .i64 0,.string ⟨#[]⟩,.string ⟨#[]⟩] 30):=⟨_,rfl⟩
 have hB:Below w.heap.size w W:=by rw [hW];exact (((Below.refl _ _).alloc (Nat.le_refl _) _).alloc (by simp) _).alloc (by simp;omega) _
 have hzW:W.heap.size=w.heap.size+3:=by rw [hW];simp
 have xE:CellsAt W w.heap.size [.int .i64 5,.string s,.string nm,.int .i64 num,.string tx,.slice ra rn rc]:=by
  have h1:=CellsAt.new w [.int .i64 5,.string s,.string nm,.int .i64 num,.string tx,.slice ra rn rc] 77
  rw [hW]
  exact CellsAt.below (CellsAt.below h1 ((Below.refl _ _).alloc (Nat.le_refl _) _)) ((Below.refl _ _).alloc (Nat.le_refl _) _)
 have zR:CellsAt W (w.heap.size+1) z12:=by
  have h1:=CellsAt.new (w.alloc (.cells #[.int .i64 5,.string s,.string nm,.int .i64 num,.string tx,.slice ra rn rc] 77)) z12 30
  rw [World.size_alloc] at h1
  rw [hW]
  exact CellsAt.below (v:=.int .i64 0) h1 ((Below.refl _ _).alloc (Nat.le_refl _) _)
 have zO:CellsAt W (w.heap.size+2) z12:=by
  have h1:=CellsAt.new ((w.alloc (.cells #[.int .i64 5,.string s,.string nm,.int .i64 num,.string tx,.slice ra rn rc] 77)).alloc (.cells #[.int .i64 0,.int .i64 0,.int .i64 0,.int .i64 0,.int .i64 0,.slice none 0 0,.slice none 0 0,.slice none 0 0,.string ⟨#[]⟩,.int .i64 0,.string ⟨#[]⟩,.string ⟨#[]⟩] 30)) z12 30
  rw [World.size_alloc,World.size_alloc] at h1
  rw [hW]
  exact h1
 have hRb:W.heap[w.heap.size+1]?=some (.cells #[.int .i64 0,.int .i64 0,.int .i64 0,.int .i64 0,.int .i64 0,.slice none 0 0,.slice none 0 0,.slice none 0 0,.string ⟨#[]⟩,.int .i64 0,.string ⟨#[]⟩,.string ⟨#[]⟩] 30):=by
  rw [hW,Below.heap_alloc _ _ _ (by simp)]
  have:=heap_alloc_new (w.alloc (.cells #[.int .i64 5,.string s,.string nm,.int .i64 num,.string tx,.slice ra rn rc] 77)) (.cells #[.int .i64 0,.int .i64 0,.int .i64 0,.int .i64 0,.int .i64 0,.slice none 0 0,.slice none 0 0,.slice none 0 0,.string ⟨#[]⟩,.int .i64 0,.string ⟨#[]⟩,.string ⟨#[]⟩] 30)
  rw [World.size_alloc] at this
  exact this
 have hD:=h.below hB
 have hdl:=h.dr.box.lt
 have hlt:∀b∈d::L.ownBlock.toList,b<w.heap.size:=fun b hb=>h.dr.lts b (by unfold vB;simp at hb ⊢;rcases hb with rfl|hb<;>simp [*])
 have HC:Hid _:=give_yes base d m O P L wd now given births ks ps ls num W hD hl hsort hth
 have HW:Hid _:=hW
 have HZ:Hid (CellsAt W (w.heap.size+1) z12/\CellsAt W (w.heap.size+2) z12/\W.heap[w.heap.size+1]?=some (.cells #[.int .i64 0,.int .i64 0,.int .i64 0,.int .i64 0,.int .i64 0,.slice none 0 0,.slice none 0 0,.slice none 0 0,.string ⟨#[]⟩,.int .i64 0,.string ⟨#[]⟩,.string ⟨#[]⟩] 30)/\Below w.heap.size w W/\W.heap.size=w.heap.size+3/\base<=w.heap.size):=⟨zR,zO,hRb,hB,hzW,h.lo⟩
 have HLt:Hid (∀b∈d::L.ownBlock.toList,b<w.heap.size):=hlt
 obtain ⟨e0,_⟩:=xE 0 _ rfl
 obtain ⟨e1,_⟩:=xE 1 _ rfl
 obtain ⟨e2,_⟩:=xE 2 _ rfl
 obtain ⟨e3,_⟩:=xE 3 _ rfl
 clear hW h hD zR zO hRb hB hzW xE hlt
 go_enter Tryz.func139,Tryz.ntmps139
 go_upto_region 2 with fail
 rw [←HW.out]
 clear HW
 go_wp2_with fail
 refine Calls.mono HC.out ?_
 rintro e w1 ⟨rfl,V,hd1,ht1⟩
 have zz:=HZ.out.2.2.2.2.1
 have zR1:CellsAt w1 (w.heap.size+1) z12:=CellsAt.same HZ.out.1 (ht1.block _ (by omega) (fun h=>by have:=HLt.out _ h;omega))
 have zO1:CellsAt w1 (w.heap.size+2) z12:=CellsAt.same HZ.out.2.1 (ht1.block _ (by omega) (fun h=>by have:=HLt.out _ h;omega))
 have hR1:w1.heap[w.heap.size+1]?=some (.cells #[.int .i64 0,.int .i64 0,.int .i64 0,.int .i64 0,.int .i64 0,.slice none 0 0,.slice none 0 0,.slice none 0 0,.string ⟨#[]⟩,.int .i64 0,.string ⟨#[]⟩,.string ⟨#[]⟩] 30):=(ht1.block _ (by omega) (fun h=>by have:=HLt.out _ h;omega)).trans HZ.out.2.2.1
 have HD1:Hid _:=And.intro hd1 (And.intro ht1 (hd1.notin hR1 (by omega)))
 obtain ⟨⟨y0,q0⟩,⟨y1,q1⟩,⟨y2,q2⟩,⟨y3,q3⟩,⟨y4,q4⟩,⟨y5,q5⟩,⟨y6,q6⟩,⟨y7,q7⟩,⟨y8,q8⟩,⟨y9,q9⟩,⟨y10,q10⟩,y11,q11⟩:=z12at zR1
 obtain ⟨⟨v0,_⟩,⟨v1,_⟩,⟨v2,_⟩,⟨v3,_⟩,⟨v4,_⟩,⟨v5,_⟩,⟨v6,_⟩,⟨v7,_⟩,⟨v8,_⟩,⟨v9,_⟩,⟨v10,_⟩,v11,_⟩:=z12at zO1
 clear hd1 ht1 zR1 zO1 hR1 e0 e1 e2 e3 HC zz
 go_wp2
 refine bodyPost_ret (v:=.agg z12.toArray) (by simp [results,Tryz.results139,go_sem,y0,y1,y2,y3,y4,y5,y6,y7,y8,y9,y10,y11,z12]) rfl ⟨rfl,V,HD1.out.1.turn (tn12 w1 (w.heap.size+1) _ _ _ _ _ _ _ _ _ _ _ _) (by intro b hb;simp at hb;subst hb;exact ⟨by have:=HZ.out.2.2.2.2.2;omega,HD1.out.2.2⟩),Tn.fresh ((Tn.of HZ.out.2.2.2.1).trans HD1.out.2.1) (tn12 w1 (w.heap.size+1) _ _ _ _ _ _ _ _ _ _ _ _) (by omega)⟩
set_option maxRecDepth 20000 in
set_option maxHeartbeats 4000000 in
theorem changeWait_yes (base d m:Nat) (O P L:Value) (wd now given births:Int) (ks:List Kd) (ps:List Pd) (ls:List Ld) (s nm tx:ByteArray) (num:Int) (ra:Option Addr) (rn rc:Nat) (w:World) (h:DU w base d m O P L wd now given births ks ps ls) (hl:ls.length<=200) (hn0:0<=now) (ht0:0<=num) (hs:now+num<=1000000000):
 Calls Tryz.prog 139 #[.pointer (some ⟨d,0,none⟩),.agg #[.int .i64 6,.string s,.string nm,.int .i64 num,.string tx,.slice ra rn rc]] w fun e w'=>e=.returned (.agg z12.toArray)/\∃L',DU w' base d m O P L' wd (now+num) given births ks ps (waitL ls (now+num))/\Tn (d::L.ownBlock.toList) w w':=by
 obtain ⟨W,hW⟩:∃W,W=((w.alloc (.cells #[.int .i64 6,.string s,.string nm,.int .i64 num,.string tx,.slice ra rn rc] 77)).alloc (.cells #[.int .i64 0,.int .i64 0,.int .i64 0,.int .i64 0,.int .i64 0,.slice none 0 0,.slice none 0 0,.slice none 0 0,.string ⟨#[]⟩,.int .i64 0,.string ⟨#[]⟩,.string ⟨#[]⟩] 30)).alloc (.cells #[.int .i64 0,.int .i64 0,.int .i64 0,.int .i64 0,.int .i64 0,.slice none 0 0,.slice none 0 0,.slice none 0 0,.string ⟨#[]⟩,.int .i64 0,.string ⟨#[]⟩,.string ⟨#[]⟩] 30):=⟨_,rfl⟩
 have hB:Below w.heap.size w W:=by rw [hW];exact (((Below.refl _ _).alloc (Nat.le_refl _) _).alloc (by simp) _).alloc (by simp;omega) _
 have hzW:W.heap.size=w.heap.size+3:=by rw [hW];simp
 have xE:CellsAt W w.heap.size [.int .i64 6,.string s,.string nm,.int .i64 num,.string tx,.slice ra rn rc]:=by
  have h1:=CellsAt.new w [.int .i64 6,.string s,.string nm,.int .i64 num,.string tx,.slice ra rn rc] 77
  rw [hW]
  exact CellsAt.below (CellsAt.below h1 ((Below.refl _ _).alloc (Nat.le_refl _) _)) ((Below.refl _ _).alloc (Nat.le_refl _) _)
 have zR:CellsAt W (w.heap.size+1) z12:=by
  have h1:=CellsAt.new (w.alloc (.cells #[.int .i64 6,.string s,.string nm,.int .i64 num,.string tx,.slice ra rn rc] 77)) z12 30
  rw [World.size_alloc] at h1
  rw [hW]
  exact CellsAt.below (v:=.int .i64 0) h1 ((Below.refl _ _).alloc (Nat.le_refl _) _)
 have zO:CellsAt W (w.heap.size+2) z12:=by
  have h1:=CellsAt.new ((w.alloc (.cells #[.int .i64 6,.string s,.string nm,.int .i64 num,.string tx,.slice ra rn rc] 77)).alloc (.cells #[.int .i64 0,.int .i64 0,.int .i64 0,.int .i64 0,.int .i64 0,.slice none 0 0,.slice none 0 0,.slice none 0 0,.string ⟨#[]⟩,.int .i64 0,.string ⟨#[]⟩,.string ⟨#[]⟩] 30)) z12 30
  rw [World.size_alloc,World.size_alloc] at h1
  rw [hW]
  exact h1
 have hRb:W.heap[w.heap.size+1]?=some (.cells #[.int .i64 0,.int .i64 0,.int .i64 0,.int .i64 0,.int .i64 0,.slice none 0 0,.slice none 0 0,.slice none 0 0,.string ⟨#[]⟩,.int .i64 0,.string ⟨#[]⟩,.string ⟨#[]⟩] 30):=by
  rw [hW,Below.heap_alloc _ _ _ (by simp)]
  have:=heap_alloc_new (w.alloc (.cells #[.int .i64 6,.string s,.string nm,.int .i64 num,.string tx,.slice ra rn rc] 77)) (.cells #[.int .i64 0,.int .i64 0,.int .i64 0,.int .i64 0,.int .i64 0,.slice none 0 0,.slice none 0 0,.slice none 0 0,.string ⟨#[]⟩,.int .i64 0,.string ⟨#[]⟩,.string ⟨#[]⟩] 30)
  rw [World.size_alloc] at this
  exact this
 have hD:=h.below hB
 have hdl:=h.dr.box.lt
 have hlt:∀b∈d::L.ownBlock.toList,b<w.heap.size:=fun b hb=>h.dr.lts b (by unfold vB;simp at hb ⊢;rcases hb with rfl|hb<;>simp [*])
 have HC:Hid _:=wait_yes base d m O P L wd now given births ks ps ls num W hD hl hn0 ht0 hs
 have HW:Hid _:=hW
 have HZ:Hid (CellsAt W (w.heap.size+1) z12/\CellsAt W (w.heap.size+2) z12/\W.heap[w.heap.size+1]?=some (.cells #[.int .i64 0,.int .i64 0,.int .i64 0,.int .i64 0,.int .i64 0,.slice none 0 0,.slice none 0 0,.slice none 0 0,.string ⟨#[]⟩,.int .i64 0,.string ⟨#[]⟩,.string ⟨#[]⟩] 30)/\Below w.heap.size w W/\W.heap.size=w.heap.size+3/\base<=w.heap.size):=⟨zR,zO,hRb,hB,hzW,h.lo⟩
 have HLt:Hid (∀b∈d::L.ownBlock.toList,b<w.heap.size):=hlt
 obtain ⟨e0,_⟩:=xE 0 _ rfl
 obtain ⟨e1,_⟩:=xE 1 _ rfl
 obtain ⟨e2,_⟩:=xE 2 _ rfl
 obtain ⟨e3,_⟩:=xE 3 _ rfl
 clear hW h hD zR zO hRb hB hzW xE hlt
 go_enter Tryz.func139,Tryz.ntmps139
 go_upto_region 2 with fail
 rw [←HW.out]
 clear HW
 go_wp2_with fail
 refine Calls.mono HC.out ?_
 rintro e w1 ⟨rfl,V,hd1,ht1⟩
 have zz:=HZ.out.2.2.2.2.1
 have zR1:CellsAt w1 (w.heap.size+1) z12:=CellsAt.same HZ.out.1 (ht1.block _ (by omega) (fun h=>by have:=HLt.out _ h;omega))
 have zO1:CellsAt w1 (w.heap.size+2) z12:=CellsAt.same HZ.out.2.1 (ht1.block _ (by omega) (fun h=>by have:=HLt.out _ h;omega))
 have hR1:w1.heap[w.heap.size+1]?=some (.cells #[.int .i64 0,.int .i64 0,.int .i64 0,.int .i64 0,.int .i64 0,.slice none 0 0,.slice none 0 0,.slice none 0 0,.string ⟨#[]⟩,.int .i64 0,.string ⟨#[]⟩,.string ⟨#[]⟩] 30):=(ht1.block _ (by omega) (fun h=>by have:=HLt.out _ h;omega)).trans HZ.out.2.2.1
 have HD1:Hid _:=And.intro hd1 (And.intro ht1 (hd1.notin hR1 (by omega)))
 obtain ⟨⟨y0,q0⟩,⟨y1,q1⟩,⟨y2,q2⟩,⟨y3,q3⟩,⟨y4,q4⟩,⟨y5,q5⟩,⟨y6,q6⟩,⟨y7,q7⟩,⟨y8,q8⟩,⟨y9,q9⟩,⟨y10,q10⟩,y11,q11⟩:=z12at zR1
 obtain ⟨⟨v0,_⟩,⟨v1,_⟩,⟨v2,_⟩,⟨v3,_⟩,⟨v4,_⟩,⟨v5,_⟩,⟨v6,_⟩,⟨v7,_⟩,⟨v8,_⟩,⟨v9,_⟩,⟨v10,_⟩,v11,_⟩:=z12at zO1
 clear hd1 ht1 zR1 zO1 hR1 e0 e1 e2 e3 HC zz
 go_wp2
 refine bodyPost_ret (v:=.agg z12.toArray) (by simp [results,Tryz.results139,go_sem,y0,y1,y2,y3,y4,y5,y6,y7,y8,y9,y10,y11,z12]) rfl ⟨rfl,V,HD1.out.1.turn (tn12 w1 (w.heap.size+1) _ _ _ _ _ _ _ _ _ _ _ _) (by intro b hb;simp at hb;subst hb;exact ⟨by have:=HZ.out.2.2.2.2.2;omega,HD1.out.2.2⟩),Tn.fresh ((Tn.of HZ.out.2.2.2.1).trans HD1.out.2.1) (tn12 w1 (w.heap.size+1) _ _ _ _ _ _ _ _ _ _ _ _) (by omega)⟩
set_option maxRecDepth 20000 in
set_option maxHeartbeats 4000000 in
theorem changeUnpin_yes (base d m:Nat) (O P L:Value) (wd now given births:Int) (ks:List Kd) (ps:List Pd) (ls:List Ld) (s nm tx:ByteArray) (num:Int) (ra:Option Addr) (rn rc:Nat) (w:World) (h:DU w base d m O P L wd now given births ks ps ls) (hl:ps.length<=200) (hsort:ps.Pairwise (fun a b=>less a.name b.name=true)) (hth:∃x∈ps,x.name=nm):
 Calls Tryz.prog 139 #[.pointer (some ⟨d,0,none⟩),.agg #[.int .i64 3,.string s,.string nm,.int .i64 num,.string tx,.slice ra rn rc]] w fun e w'=>e=.returned (.agg z12.toArray)/\∃P',DU w' base d m O P' L wd now given births ks (unpinP ps nm) ls/\Tn (d::P.ownBlock.toList) w w':=by
 obtain ⟨W,hW⟩:∃W,W=((w.alloc (.cells #[.int .i64 3,.string s,.string nm,.int .i64 num,.string tx,.slice ra rn rc] 77)).alloc (.cells #[.int .i64 0,.int .i64 0,.int .i64 0,.int .i64 0,.int .i64 0,.slice none 0 0,.slice none 0 0,.slice none 0 0,.string ⟨#[]⟩,.int .i64 0,.string ⟨#[]⟩,.string ⟨#[]⟩] 30)).alloc (.cells #[.int .i64 0,.int .i64 0,.int .i64 0,.int .i64 0,.int .i64 0,.slice none 0 0,.slice none 0 0,.slice none 0 0,.string ⟨#[]⟩,.int .i64 0,.string ⟨#[]⟩,.string ⟨#[]⟩] 30):=⟨_,rfl⟩
 have hB:Below w.heap.size w W:=by rw [hW];exact (((Below.refl _ _).alloc (Nat.le_refl _) _).alloc (by simp) _).alloc (by simp;omega) _
 have hzW:W.heap.size=w.heap.size+3:=by rw [hW];simp
 have xE:CellsAt W w.heap.size [.int .i64 3,.string s,.string nm,.int .i64 num,.string tx,.slice ra rn rc]:=by
  have h1:=CellsAt.new w [.int .i64 3,.string s,.string nm,.int .i64 num,.string tx,.slice ra rn rc] 77
  rw [hW]
  exact CellsAt.below (CellsAt.below h1 ((Below.refl _ _).alloc (Nat.le_refl _) _)) ((Below.refl _ _).alloc (Nat.le_refl _) _)
 have zR:CellsAt W (w.heap.size+1) z12:=by
  have h1:=CellsAt.new (w.alloc (.cells #[.int .i64 3,.string s,.string nm,.int .i64 num,.string tx,.slice ra rn rc] 77)) z12 30
  rw [World.size_alloc] at h1
  rw [hW]
  exact CellsAt.below (v:=.int .i64 0) h1 ((Below.refl _ _).alloc (Nat.le_refl _) _)
 have zO:CellsAt W (w.heap.size+2) z12:=by
  have h1:=CellsAt.new ((w.alloc (.cells #[.int .i64 3,.string s,.string nm,.int .i64 num,.string tx,.slice ra rn rc] 77)).alloc (.cells #[.int .i64 0,.int .i64 0,.int .i64 0,.int .i64 0,.int .i64 0,.slice none 0 0,.slice none 0 0,.slice none 0 0,.string ⟨#[]⟩,.int .i64 0,.string ⟨#[]⟩,.string ⟨#[]⟩] 30)) z12 30
  rw [World.size_alloc,World.size_alloc] at h1
  rw [hW]
  exact h1
 have hRb:W.heap[w.heap.size+1]?=some (.cells #[.int .i64 0,.int .i64 0,.int .i64 0,.int .i64 0,.int .i64 0,.slice none 0 0,.slice none 0 0,.slice none 0 0,.string ⟨#[]⟩,.int .i64 0,.string ⟨#[]⟩,.string ⟨#[]⟩] 30):=by
  rw [hW,Below.heap_alloc _ _ _ (by simp)]
  have:=heap_alloc_new (w.alloc (.cells #[.int .i64 3,.string s,.string nm,.int .i64 num,.string tx,.slice ra rn rc] 77)) (.cells #[.int .i64 0,.int .i64 0,.int .i64 0,.int .i64 0,.int .i64 0,.slice none 0 0,.slice none 0 0,.slice none 0 0,.string ⟨#[]⟩,.int .i64 0,.string ⟨#[]⟩,.string ⟨#[]⟩] 30)
  rw [World.size_alloc] at this
  exact this
 have hD:=h.below hB
 have hdl:=h.dr.box.lt
 have hlt:∀b∈d::P.ownBlock.toList,b<w.heap.size:=fun b hb=>h.dr.lts b (by unfold vB;simp at hb ⊢;rcases hb with rfl|hb<;>simp [*])
 have HC:Hid _:=unpin_yes base d m O P L wd now given births ks ps ls nm W hD hl hsort hth
 have HW:Hid _:=hW
 have HZ:Hid (CellsAt W (w.heap.size+1) z12/\CellsAt W (w.heap.size+2) z12/\W.heap[w.heap.size+1]?=some (.cells #[.int .i64 0,.int .i64 0,.int .i64 0,.int .i64 0,.int .i64 0,.slice none 0 0,.slice none 0 0,.slice none 0 0,.string ⟨#[]⟩,.int .i64 0,.string ⟨#[]⟩,.string ⟨#[]⟩] 30)/\Below w.heap.size w W/\W.heap.size=w.heap.size+3/\base<=w.heap.size):=⟨zR,zO,hRb,hB,hzW,h.lo⟩
 have HLt:Hid (∀b∈d::P.ownBlock.toList,b<w.heap.size):=hlt
 obtain ⟨e0,_⟩:=xE 0 _ rfl
 obtain ⟨e1,_⟩:=xE 1 _ rfl
 obtain ⟨e2,_⟩:=xE 2 _ rfl
 obtain ⟨e3,_⟩:=xE 3 _ rfl
 clear hW h hD zR zO hRb hB hzW xE hlt
 go_enter Tryz.func139,Tryz.ntmps139
 go_upto_region 2 with fail
 rw [←HW.out]
 clear HW
 go_wp2_with fail
 refine Calls.mono HC.out ?_
 rintro e w1 ⟨rfl,V,hd1,ht1⟩
 have zz:=HZ.out.2.2.2.2.1
 have zR1:CellsAt w1 (w.heap.size+1) z12:=CellsAt.same HZ.out.1 (ht1.block _ (by omega) (fun h=>by have:=HLt.out _ h;omega))
 have zO1:CellsAt w1 (w.heap.size+2) z12:=CellsAt.same HZ.out.2.1 (ht1.block _ (by omega) (fun h=>by have:=HLt.out _ h;omega))
 have hR1:w1.heap[w.heap.size+1]?=some (.cells #[.int .i64 0,.int .i64 0,.int .i64 0,.int .i64 0,.int .i64 0,.slice none 0 0,.slice none 0 0,.slice none 0 0,.string ⟨#[]⟩,.int .i64 0,.string ⟨#[]⟩,.string ⟨#[]⟩] 30):=(ht1.block _ (by omega) (fun h=>by have:=HLt.out _ h;omega)).trans HZ.out.2.2.1
 have HD1:Hid _:=And.intro hd1 (And.intro ht1 (hd1.notin hR1 (by omega)))
 obtain ⟨⟨y0,q0⟩,⟨y1,q1⟩,⟨y2,q2⟩,⟨y3,q3⟩,⟨y4,q4⟩,⟨y5,q5⟩,⟨y6,q6⟩,⟨y7,q7⟩,⟨y8,q8⟩,⟨y9,q9⟩,⟨y10,q10⟩,y11,q11⟩:=z12at zR1
 obtain ⟨⟨v0,_⟩,⟨v1,_⟩,⟨v2,_⟩,⟨v3,_⟩,⟨v4,_⟩,⟨v5,_⟩,⟨v6,_⟩,⟨v7,_⟩,⟨v8,_⟩,⟨v9,_⟩,⟨v10,_⟩,v11,_⟩:=z12at zO1
 clear hd1 ht1 zR1 zO1 hR1 e0 e1 e2 e3 HC zz
 go_wp2
 refine bodyPost_ret (v:=.agg z12.toArray) (by simp [results,Tryz.results139,go_sem,y0,y1,y2,y3,y4,y5,y6,y7,y8,y9,y10,y11,z12]) rfl ⟨rfl,V,HD1.out.1.turn (tn12 w1 (w.heap.size+1) _ _ _ _ _ _ _ _ _ _ _ _) (by intro b hb;simp at hb;subst hb;exact ⟨by have:=HZ.out.2.2.2.2.2;omega,HD1.out.2.2⟩),Tn.fresh ((Tn.of HZ.out.2.2.2.1).trans HD1.out.2.1) (tn12 w1 (w.heap.size+1) _ _ _ _ _ _ _ _ _ _ _ _) (by omega)⟩
end Go.Proofs.YtpekbmegopfhfaaGreatDoor
namespace Go.Proofs.YtpekbmegopfhfaaGreatDoor
open Go.ChangeShapes Go.WideShapes Go.ChangeAt Go.RowKit
set_option maxRecDepth 20000 in
set_option maxHeartbeats 4000000 in
theorem changeUnpin_no (d:Nat) (s nm tx:ByteArray) (num:Int) (ra:Option Addr) (rn rc:Nat) (c:Int) (a b:ByteArray) (w:World) (h:∀X,Below w.heap.size w X->Calls Tryz.prog 171 #[.pointer (some ⟨d,0,none⟩),.string nm] X fun e w'=>e=.panicked [{v:=refV c a b,recovered:=false}]/\Below X.heap.size X w'):
 Calls Tryz.prog 139 #[.pointer (some ⟨d,0,none⟩),.agg #[.int .i64 3,.string s,.string nm,.int .i64 num,.string tx,.slice ra rn rc]] w fun e w'=>e=.panicked [{v:=refV c a b,recovered:=false}]/\Below w.heap.size w w':=by
 obtain ⟨W,hW⟩:∃W,W=((w.alloc (.cells #[.int .i64 3,.string s,.string nm,.int .i64 num,.string tx,.slice ra rn rc] 77)).alloc (.cells #[.int .i64 0,.int .i64 0,.int .i64 0,.int .i64 0,.int .i64 0,.slice none 0 0,.slice none 0 0,.slice none 0 0,.string ⟨#[]⟩,.int .i64 0,.string ⟨#[]⟩,.string ⟨#[]⟩] 30)).alloc (.cells #[.int .i64 0,.int .i64 0,.int .i64 0,.int .i64 0,.int .i64 0,.slice none 0 0,.slice none 0 0,.slice none 0 0,.string ⟨#[]⟩,.int .i64 0,.string ⟨#[]⟩,.string ⟨#[]⟩] 30):=⟨_,rfl⟩
 have hB:Below w.heap.size w W:=by rw [hW];exact (((Below.refl _ _).alloc (Nat.le_refl _) _).alloc (by simp) _).alloc (by simp;omega) _
 have xE:CellsAt W w.heap.size [.int .i64 3,.string s,.string nm,.int .i64 num,.string tx,.slice ra rn rc]:=by
  have h1:=CellsAt.new w [.int .i64 3,.string s,.string nm,.int .i64 num,.string tx,.slice ra rn rc] 77
  rw [hW]
  exact CellsAt.below (CellsAt.below h1 ((Below.refl _ _).alloc (Nat.le_refl _) _)) ((Below.refl _ _).alloc (Nat.le_refl _) _)
 have HC:Hid _:=h W hB
 have HW:Hid _:=hW
 obtain ⟨e0,_⟩:=xE 0 _ rfl
 obtain ⟨e1,_⟩:=xE 1 _ rfl
 obtain ⟨e2,_⟩:=xE 2 _ rfl
 obtain ⟨e3,_⟩:=xE 3 _ rfl
 clear hW xE h
 go_enter Tryz.func139,Tryz.ntmps139
 go_upto_region 2 with fail
 rw [←HW.out]
 clear HW
 go_wp2_with fail
 refine Calls.mono HC.out ?_
 rintro e w1 ⟨rfl,hb1⟩
 exact ⟨rfl,rfl,hB.trans (hb1.mono hB.size)⟩
set_option maxRecDepth 20000 in
set_option maxHeartbeats 4000000 in
theorem changeLease_no (d:Nat) (s nm tx:ByteArray) (num:Int) (ra:Option Addr) (rn rc:Nat) (c:Int) (a b:ByteArray) (w:World) (h:∀X,Below w.heap.size w X->Calls Tryz.prog 169 #[.pointer (some ⟨d,0,none⟩),.string s,.int .i64 num] X fun e w'=>e=.panicked [{v:=refV c a b,recovered:=false}]/\Below X.heap.size X w'):
 Calls Tryz.prog 139 #[.pointer (some ⟨d,0,none⟩),.agg #[.int .i64 4,.string s,.string nm,.int .i64 num,.string tx,.slice ra rn rc]] w fun e w'=>e=.panicked [{v:=refV c a b,recovered:=false}]/\Below w.heap.size w w':=by
 obtain ⟨W,hW⟩:∃W,W=((w.alloc (.cells #[.int .i64 4,.string s,.string nm,.int .i64 num,.string tx,.slice ra rn rc] 77)).alloc (.cells #[.int .i64 0,.int .i64 0,.int .i64 0,.int .i64 0,.int .i64 0,.slice none 0 0,.slice none 0 0,.slice none 0 0,.string ⟨#[]⟩,.int .i64 0,.string ⟨#[]⟩,.string ⟨#[]⟩] 30)).alloc (.cells #[.int .i64 0,.int .i64 0,.int .i64 0,.int .i64 0,.int .i64 0,.slice none 0 0,.slice none 0 0,.slice none 0 0,.string ⟨#[]⟩,.int .i64 0,.string ⟨#[]⟩,.string ⟨#[]⟩] 30):=⟨_,rfl⟩
 have hB:Below w.heap.size w W:=by rw [hW];exact (((Below.refl _ _).alloc (Nat.le_refl _) _).alloc (by simp) _).alloc (by simp;omega) _
 have xE:CellsAt W w.heap.size [.int .i64 4,.string s,.string nm,.int .i64 num,.string tx,.slice ra rn rc]:=by
  have h1:=CellsAt.new w [.int .i64 4,.string s,.string nm,.int .i64 num,.string tx,.slice ra rn rc] 77
  rw [hW]
  exact CellsAt.below (CellsAt.below h1 ((Below.refl _ _).alloc (Nat.le_refl _) _)) ((Below.refl _ _).alloc (Nat.le_refl _) _)
 have HC:Hid _:=h W hB
 have HW:Hid _:=hW
 obtain ⟨e0,_⟩:=xE 0 _ rfl
 obtain ⟨e1,_⟩:=xE 1 _ rfl
 obtain ⟨e2,_⟩:=xE 2 _ rfl
 obtain ⟨e3,_⟩:=xE 3 _ rfl
 clear hW xE h
 go_enter Tryz.func139,Tryz.ntmps139
 go_upto_region 2 with fail
 rw [←HW.out]
 clear HW
 go_wp2_with fail
 refine Calls.mono HC.out ?_
 rintro e w1 ⟨rfl,hb1⟩
 exact ⟨rfl,rfl,hB.trans (hb1.mono hB.size)⟩
set_option maxRecDepth 20000 in
set_option maxHeartbeats 4000000 in
theorem changeGive_no (d:Nat) (s nm tx:ByteArray) (num:Int) (ra:Option Addr) (rn rc:Nat) (c:Int) (a b:ByteArray) (w:World) (h:∀X,Below w.heap.size w X->Calls Tryz.prog 172 #[.pointer (some ⟨d,0,none⟩),.int .i64 num] X fun e w'=>e=.panicked [{v:=refV c a b,recovered:=false}]/\Below X.heap.size X w'):
 Calls Tryz.prog 139 #[.pointer (some ⟨d,0,none⟩),.agg #[.int .i64 5,.string s,.string nm,.int .i64 num,.string tx,.slice ra rn rc]] w fun e w'=>e=.panicked [{v:=refV c a b,recovered:=false}]/\Below w.heap.size w w':=by
 obtain ⟨W,hW⟩:∃W,W=((w.alloc (.cells #[.int .i64 5,.string s,.string nm,.int .i64 num,.string tx,.slice ra rn rc] 77)).alloc (.cells #[.int .i64 0,.int .i64 0,.int .i64 0,.int .i64 0,.int .i64 0,.slice none 0 0,.slice none 0 0,.slice none 0 0,.string ⟨#[]⟩,.int .i64 0,.string ⟨#[]⟩,.string ⟨#[]⟩] 30)).alloc (.cells #[.int .i64 0,.int .i64 0,.int .i64 0,.int .i64 0,.int .i64 0,.slice none 0 0,.slice none 0 0,.slice none 0 0,.string ⟨#[]⟩,.int .i64 0,.string ⟨#[]⟩,.string ⟨#[]⟩] 30):=⟨_,rfl⟩
 have hB:Below w.heap.size w W:=by rw [hW];exact (((Below.refl _ _).alloc (Nat.le_refl _) _).alloc (by simp) _).alloc (by simp;omega) _
 have xE:CellsAt W w.heap.size [.int .i64 5,.string s,.string nm,.int .i64 num,.string tx,.slice ra rn rc]:=by
  have h1:=CellsAt.new w [.int .i64 5,.string s,.string nm,.int .i64 num,.string tx,.slice ra rn rc] 77
  rw [hW]
  exact CellsAt.below (CellsAt.below h1 ((Below.refl _ _).alloc (Nat.le_refl _) _)) ((Below.refl _ _).alloc (Nat.le_refl _) _)
 have HC:Hid _:=h W hB
 have HW:Hid _:=hW
 obtain ⟨e0,_⟩:=xE 0 _ rfl
 obtain ⟨e1,_⟩:=xE 1 _ rfl
 obtain ⟨e2,_⟩:=xE 2 _ rfl
 obtain ⟨e3,_⟩:=xE 3 _ rfl
 clear hW xE h
 go_enter Tryz.func139,Tryz.ntmps139
 go_upto_region 2 with fail
 rw [←HW.out]
 clear HW
 go_wp2_with fail
 refine Calls.mono HC.out ?_
 rintro e w1 ⟨rfl,hb1⟩
 exact ⟨rfl,rfl,hB.trans (hb1.mono hB.size)⟩
set_option maxRecDepth 20000 in
set_option maxHeartbeats 4000000 in
theorem changeWait_no (d:Nat) (s nm tx:ByteArray) (num:Int) (ra:Option Addr) (rn rc:Nat) (c:Int) (a b:ByteArray) (w:World) (h:∀X,Below w.heap.size w X->Calls Tryz.prog 173 #[.pointer (some ⟨d,0,none⟩),.int .i64 num] X fun e w'=>e=.panicked [{v:=refV c a b,recovered:=false}]/\Below X.heap.size X w'):
 Calls Tryz.prog 139 #[.pointer (some ⟨d,0,none⟩),.agg #[.int .i64 6,.string s,.string nm,.int .i64 num,.string tx,.slice ra rn rc]] w fun e w'=>e=.panicked [{v:=refV c a b,recovered:=false}]/\Below w.heap.size w w':=by
 obtain ⟨W,hW⟩:∃W,W=((w.alloc (.cells #[.int .i64 6,.string s,.string nm,.int .i64 num,.string tx,.slice ra rn rc] 77)).alloc (.cells #[.int .i64 0,.int .i64 0,.int .i64 0,.int .i64 0,.int .i64 0,.slice none 0 0,.slice none 0 0,.slice none 0 0,.string ⟨#[]⟩,.int .i64 0,.string ⟨#[]⟩,.string ⟨#[]⟩] 30)).alloc (.cells #[.int .i64 0,.int .i64 0,.int .i64 0,.int .i64 0,.int .i64 0,.slice none 0 0,.slice none 0 0,.slice none 0 0,.string ⟨#[]⟩,.int .i64 0,.string ⟨#[]⟩,.string ⟨#[]⟩] 30):=⟨_,rfl⟩
 have hB:Below w.heap.size w W:=by rw [hW];exact (((Below.refl _ _).alloc (Nat.le_refl _) _).alloc (by simp) _).alloc (by simp;omega) _
 have xE:CellsAt W w.heap.size [.int .i64 6,.string s,.string nm,.int .i64 num,.string tx,.slice ra rn rc]:=by
  have h1:=CellsAt.new w [.int .i64 6,.string s,.string nm,.int .i64 num,.string tx,.slice ra rn rc] 77
  rw [hW]
  exact CellsAt.below (CellsAt.below h1 ((Below.refl _ _).alloc (Nat.le_refl _) _)) ((Below.refl _ _).alloc (Nat.le_refl _) _)
 have HC:Hid _:=h W hB
 have HW:Hid _:=hW
 obtain ⟨e0,_⟩:=xE 0 _ rfl
 obtain ⟨e1,_⟩:=xE 1 _ rfl
 obtain ⟨e2,_⟩:=xE 2 _ rfl
 obtain ⟨e3,_⟩:=xE 3 _ rfl
 clear hW xE h
 go_enter Tryz.func139,Tryz.ntmps139
 go_upto_region 2 with fail
 rw [←HW.out]
 clear HW
 go_wp2_with fail
 refine Calls.mono HC.out ?_
 rintro e w1 ⟨rfl,hb1⟩
 exact ⟨rfl,rfl,hB.trans (hb1.mono hB.size)⟩
set_option maxRecDepth 20000 in
set_option maxHeartbeats 4000000 in
theorem changePin_no (d:Nat) (s nm tx:ByteArray) (num:Int) (ra:Option Addr) (rn rc:Nat) (c:Int) (a b:ByteArray) (w:World) (h:∀X,Below w.heap.size w X->Calls Tryz.prog 170 #[.pointer (some ⟨d,0,none⟩),.string nm,.string s] X fun e w'=>e=.panicked [{v:=refV c a b,recovered:=false}]/\Below X.heap.size X w'):
 Calls Tryz.prog 139 #[.pointer (some ⟨d,0,none⟩),.agg #[.int .i64 2,.string s,.string nm,.int .i64 num,.string tx,.slice ra rn rc]] w fun e w'=>e=.panicked [{v:=refV c a b,recovered:=false}]/\Below w.heap.size w w':=by
 obtain ⟨W,hW⟩:∃W,W=((w.alloc (.cells #[.int .i64 2,.string s,.string nm,.int .i64 num,.string tx,.slice ra rn rc] 77)).alloc (.cells #[.int .i64 0,.int .i64 0,.int .i64 0,.int .i64 0,.int .i64 0,.slice none 0 0,.slice none 0 0,.slice none 0 0,.string ⟨#[]⟩,.int .i64 0,.string ⟨#[]⟩,.string ⟨#[]⟩] 30)).alloc (.cells #[.int .i64 0,.int .i64 0,.int .i64 0,.int .i64 0,.int .i64 0,.slice none 0 0,.slice none 0 0,.slice none 0 0,.string ⟨#[]⟩,.int .i64 0,.string ⟨#[]⟩,.string ⟨#[]⟩] 30):=⟨_,rfl⟩
 have hB:Below w.heap.size w W:=by rw [hW];exact (((Below.refl _ _).alloc (Nat.le_refl _) _).alloc (by simp) _).alloc (by simp;omega) _
 have xE:CellsAt W w.heap.size [.int .i64 2,.string s,.string nm,.int .i64 num,.string tx,.slice ra rn rc]:=by
  have h1:=CellsAt.new w [.int .i64 2,.string s,.string nm,.int .i64 num,.string tx,.slice ra rn rc] 77
  rw [hW]
  exact CellsAt.below (CellsAt.below h1 ((Below.refl _ _).alloc (Nat.le_refl _) _)) ((Below.refl _ _).alloc (Nat.le_refl _) _)
 have HC:Hid _:=h W hB
 have HW:Hid _:=hW
 obtain ⟨e0,_⟩:=xE 0 _ rfl
 obtain ⟨e1,_⟩:=xE 1 _ rfl
 obtain ⟨e2,_⟩:=xE 2 _ rfl
 obtain ⟨e3,_⟩:=xE 3 _ rfl
 clear hW xE h
 go_enter Tryz.func139,Tryz.ntmps139
 go_upto_region 2 with fail
 rw [←HW.out]
 clear HW
 go_wp2_with fail
 refine Calls.mono HC.out ?_
 rintro e w1 ⟨rfl,hb1⟩
 exact ⟨rfl,rfl,hB.trans (hb1.mono hB.size)⟩
end Go.Proofs.YtpekbmegopfhfaaGreatDoor
namespace Go.Proofs.YtpekbmegopfhfaaGreatDoor
open Go.ChangeShapes Go.WideShapes Go.ChangeAt Go.RowKit
end Go.Proofs.YtpekbmegopfhfaaGreatDoor
namespace Go.Proofs.YtpekbmegopfhfaaGreatDoor
open Go.ChangeShapes Go.WideShapes Go.ChangeAt Go.RowKit
set_option maxRecDepth 20000 in
set_option maxHeartbeats 4000000 in
theorem changeLease_yes (base d m:Nat) (O P L:Value) (wd now given births:Int) (ks:List Kd) (ps:List Pd) (ls:List Ld) (s nm tx:ByteArray) (num:Int) (ra:Option Addr) (rn rc:Nat) (w:World) (h:DU w base d m O P L wd now given births ks ps ls) (hsz:∀k∈ks,(k.sum.size:Int)=wd) (hth:There ks s) (hl:ls.length<200) (hg0:0<=given) (hg1:given<1000000000) (hn0:0<=now) (hn1:now<=1000000000) (ht0:0<=num) (ht1:num<=1000000000):
 Calls Tryz.prog 139 #[.pointer (some ⟨d,0,none⟩),.agg #[.int .i64 4,.string s,.string nm,.int .i64 num,.string tx,.slice ra rn rc]] w fun e w'=>e=.returned (.agg #[.int .i64 0,.int .i64 0,.int .i64 0,.int .i64 0,.int .i64 0,.slice none 0 0,.slice none 0 0,.slice none 0 0,.string ⟨#[]⟩,.int .i64 (given+1),.string ⟨#[]⟩,.string ⟨#[]⟩])/\∃L',DU w' base d m O P L' wd now (given+1) births ks ps (ls++[⟨given+1,s,now+num⟩])/\Tn (d::L.ownBlock.toList) w w':=by
 obtain ⟨W,hW⟩:∃W,W=((w.alloc (.cells #[.int .i64 4,.string s,.string nm,.int .i64 num,.string tx,.slice ra rn rc] 77)).alloc (.cells #[.int .i64 0,.int .i64 0,.int .i64 0,.int .i64 0,.int .i64 0,.slice none 0 0,.slice none 0 0,.slice none 0 0,.string ⟨#[]⟩,.int .i64 0,.string ⟨#[]⟩,.string ⟨#[]⟩] 30)).alloc (.cells #[.int .i64 0,.int .i64 0,.int .i64 0,.int .i64 0,.int .i64 0,.slice none 0 0,.slice none 0 0,.slice none 0 0,.string ⟨#[]⟩,.int .i64 0,.string ⟨#[]⟩,.string ⟨#[]⟩] 30):=⟨_,rfl⟩
 have hB:Below w.heap.size w W:=by rw [hW];exact (((Below.refl _ _).alloc (Nat.le_refl _) _).alloc (by simp) _).alloc (by simp;omega) _
 have hzW:W.heap.size=w.heap.size+3:=by rw [hW];simp
 have xE:CellsAt W w.heap.size [.int .i64 4,.string s,.string nm,.int .i64 num,.string tx,.slice ra rn rc]:=by
  have h1:=CellsAt.new w [.int .i64 4,.string s,.string nm,.int .i64 num,.string tx,.slice ra rn rc] 77
  rw [hW]
  exact CellsAt.below (CellsAt.below h1 ((Below.refl _ _).alloc (Nat.le_refl _) _)) ((Below.refl _ _).alloc (Nat.le_refl _) _)
 have zR:CellsAt W (w.heap.size+1) z12:=by
  have h1:=CellsAt.new (w.alloc (.cells #[.int .i64 4,.string s,.string nm,.int .i64 num,.string tx,.slice ra rn rc] 77)) z12 30
  rw [World.size_alloc] at h1
  rw [hW]
  exact CellsAt.below (v:=.int .i64 0) h1 ((Below.refl _ _).alloc (Nat.le_refl _) _)
 have zO:CellsAt W (w.heap.size+2) z12:=by
  have h1:=CellsAt.new ((w.alloc (.cells #[.int .i64 4,.string s,.string nm,.int .i64 num,.string tx,.slice ra rn rc] 77)).alloc (.cells #[.int .i64 0,.int .i64 0,.int .i64 0,.int .i64 0,.int .i64 0,.slice none 0 0,.slice none 0 0,.slice none 0 0,.string ⟨#[]⟩,.int .i64 0,.string ⟨#[]⟩,.string ⟨#[]⟩] 30)) z12 30
  rw [World.size_alloc,World.size_alloc] at h1
  rw [hW]
  exact h1
 have hRb:W.heap[w.heap.size+1]?=some (.cells #[.int .i64 0,.int .i64 0,.int .i64 0,.int .i64 0,.int .i64 0,.slice none 0 0,.slice none 0 0,.slice none 0 0,.string ⟨#[]⟩,.int .i64 0,.string ⟨#[]⟩,.string ⟨#[]⟩] 30):=by
  rw [hW,Below.heap_alloc _ _ _ (by simp)]
  have:=heap_alloc_new (w.alloc (.cells #[.int .i64 4,.string s,.string nm,.int .i64 num,.string tx,.slice ra rn rc] 77)) (.cells #[.int .i64 0,.int .i64 0,.int .i64 0,.int .i64 0,.int .i64 0,.slice none 0 0,.slice none 0 0,.slice none 0 0,.string ⟨#[]⟩,.int .i64 0,.string ⟨#[]⟩,.string ⟨#[]⟩] 30)
  rw [World.size_alloc] at this
  exact this
 have hOb:W.heap[w.heap.size+2]?=some (.cells #[.int .i64 0,.int .i64 0,.int .i64 0,.int .i64 0,.int .i64 0,.slice none 0 0,.slice none 0 0,.slice none 0 0,.string ⟨#[]⟩,.int .i64 0,.string ⟨#[]⟩,.string ⟨#[]⟩] 30):=by
  have:=heap_alloc_new ((w.alloc (.cells #[.int .i64 4,.string s,.string nm,.int .i64 num,.string tx,.slice ra rn rc] 77)).alloc (.cells #[.int .i64 0,.int .i64 0,.int .i64 0,.int .i64 0,.int .i64 0,.slice none 0 0,.slice none 0 0,.slice none 0 0,.string ⟨#[]⟩,.int .i64 0,.string ⟨#[]⟩,.string ⟨#[]⟩] 30)) (.cells #[.int .i64 0,.int .i64 0,.int .i64 0,.int .i64 0,.int .i64 0,.slice none 0 0,.slice none 0 0,.slice none 0 0,.string ⟨#[]⟩,.int .i64 0,.string ⟨#[]⟩,.string ⟨#[]⟩] 30)
  rw [World.size_alloc,World.size_alloc] at this
  rw [hW]
  exact this
 have hD:=h.below hB
 have hdl:=h.dr.box.lt
 have hlt:∀b∈d::L.ownBlock.toList,b<w.heap.size:=fun b hb=>h.dr.lts b (by unfold vB;simp at hb ⊢;rcases hb with rfl|hb<;>simp [*])
 have HC:Hid _:=lend_yes base d m O P L wd now given births ks ps ls s num W hD hsz hth hl hg0 hg1 hn0 hn1 ht0 ht1
 have HW:Hid _:=hW
 have HZ:Hid (CellsAt W (w.heap.size+1) z12/\CellsAt W (w.heap.size+2) z12/\W.heap[w.heap.size+1]?=some (.cells #[.int .i64 0,.int .i64 0,.int .i64 0,.int .i64 0,.int .i64 0,.slice none 0 0,.slice none 0 0,.slice none 0 0,.string ⟨#[]⟩,.int .i64 0,.string ⟨#[]⟩,.string ⟨#[]⟩] 30)/\W.heap[w.heap.size+2]?=some (.cells #[.int .i64 0,.int .i64 0,.int .i64 0,.int .i64 0,.int .i64 0,.slice none 0 0,.slice none 0 0,.slice none 0 0,.string ⟨#[]⟩,.int .i64 0,.string ⟨#[]⟩,.string ⟨#[]⟩] 30)/\Below w.heap.size w W/\W.heap.size=w.heap.size+3/\base<=w.heap.size):=⟨zR,zO,hRb,hOb,hB,hzW,h.lo⟩
 have HLt:Hid (∀b∈d::L.ownBlock.toList,b<w.heap.size):=hlt
 obtain ⟨e0,_⟩:=xE 0 _ rfl
 obtain ⟨e1,_⟩:=xE 1 _ rfl
 obtain ⟨e2,_⟩:=xE 2 _ rfl
 obtain ⟨e3,_⟩:=xE 3 _ rfl
 clear hW h hD zR zO hRb hOb hB hzW xE hlt
 go_enter Tryz.func139,Tryz.ntmps139
 go_upto_region 2 with fail
 rw [←HW.out]
 clear HW
 go_wp2_with fail
 refine Calls.mono HC.out ?_
 rintro e w1 ⟨rfl,V,hd1,ht1⟩
 have zz:=HZ.out.2.2.2.2.2.1
 have zR1:CellsAt w1 (w.heap.size+1) z12:=CellsAt.same HZ.out.1 (ht1.block _ (by omega) (fun h=>by have:=HLt.out _ h;omega))
 have zO1:CellsAt w1 (w.heap.size+2) z12:=CellsAt.same HZ.out.2.1 (ht1.block _ (by omega) (fun h=>by have:=HLt.out _ h;omega))
 have hR1:w1.heap[w.heap.size+1]?=some (.cells #[.int .i64 0,.int .i64 0,.int .i64 0,.int .i64 0,.int .i64 0,.slice none 0 0,.slice none 0 0,.slice none 0 0,.string ⟨#[]⟩,.int .i64 0,.string ⟨#[]⟩,.string ⟨#[]⟩] 30):=(ht1.block _ (by omega) (fun h=>by have:=HLt.out _ h;omega)).trans HZ.out.2.2.1
 have hO1:w1.heap[w.heap.size+2]?=some (.cells #[.int .i64 0,.int .i64 0,.int .i64 0,.int .i64 0,.int .i64 0,.slice none 0 0,.slice none 0 0,.slice none 0 0,.string ⟨#[]⟩,.int .i64 0,.string ⟨#[]⟩,.string ⟨#[]⟩] 30):=(ht1.block _ (by omega) (fun h=>by have:=HLt.out _ h;omega)).trans HZ.out.2.2.2.1
 have HD1:Hid _:=And.intro hd1 (And.intro ht1 (And.intro (hd1.notin hR1 (by omega)) (hd1.notin hO1 (by omega))))
 obtain ⟨⟨y0,q0⟩,⟨y1,q1⟩,⟨y2,q2⟩,⟨y3,q3⟩,⟨y4,q4⟩,⟨y5,q5⟩,⟨y6,q6⟩,⟨y7,q7⟩,⟨y8,q8⟩,⟨y9,q9⟩,⟨y10,q10⟩,y11,q11⟩:=z12at zR1
 obtain ⟨⟨v0,p0⟩,⟨v1,p1⟩,⟨v2,p2⟩,⟨v3,p3⟩,⟨v4,p4⟩,⟨v5,p5⟩,⟨v6,p6⟩,⟨v7,p7⟩,⟨v8,p8⟩,⟨v9,p9⟩,⟨v10,p10⟩,v11,p11⟩:=z12at zO1
 clear hd1 ht1 zR1 zO1 hR1 hO1 e0 e1 e2 e3 HC zz
 go_wp2
 refine bodyPost_ret (v:=.agg #[.int .i64 0,.int .i64 0,.int .i64 0,.int .i64 0,.int .i64 0,.slice none 0 0,.slice none 0 0,.slice none 0 0,.string ⟨#[]⟩,.int .i64 (given+1),.string ⟨#[]⟩,.string ⟨#[]⟩]) (by simp [results,Tryz.results139,go_sem,y0,y1,y2,y3,y4,y5,y6,y7,y8,y9,y10,y11]) rfl ?_
 have T9:=(Tn.set (V:=[w.heap.size+1,w.heap.size+2]) w1 (w.heap.size+2) 9 (.int .i64 (given+1)) (by simp)).trans (Tn.mono (tn12 (w1.setCell ⟨w.heap.size+2,9,none⟩ (.int .i64 (given+1))) (w.heap.size+1) (.int .i64 0) (.int .i64 0) (.int .i64 0) (.int .i64 0) (.int .i64 0) (.slice none 0 0) (.slice none 0 0) (.slice none 0 0) (.string ⟨#[]⟩) (.int .i64 (given+1)) (.string ⟨#[]⟩) (.string ⟨#[]⟩)) (by simp))
 refine ⟨rfl,V,HD1.out.1.turn T9 (by intro b hb;simp at hb;have:=HZ.out.2.2.2.2.2.2;rcases hb with rfl|rfl;exact ⟨by omega,HD1.out.2.2.1⟩;exact ⟨by omega,HD1.out.2.2.2⟩),?_⟩
 have t0:=(Tn.of (V:=d::L.ownBlock.toList) HZ.out.2.2.2.2.1).trans HD1.out.2.1
 exact ⟨T9.os.trans t0.os,T9.tape.trans t0.tape,T9.output.trans t0.output,Nat.le_trans t0.size T9.size,fun b hb hv=>(T9.block b (Nat.lt_of_lt_of_le hb t0.size) (by simp;omega)).trans (t0.block b hb hv)⟩
end Go.Proofs.YtpekbmegopfhfaaGreatDoor
namespace Go.Proofs.YtpekbmegopfhfaaGreatDoor
open Go.ChangeShapes Go.WideShapes Go.ChangeAt Go.RowKit
def pinP (ps:List Pd) (n s:ByteArray):List Pd:=ps.filter (fun x=>less x.name n)++[⟨n,s⟩]++ps.filter (fun x=> !(less x.name n)&& !decide (x.name=n))
theorem PlaceP.split {ps:List Pd} {n:ByteArray} {i:Nat} (h:PlaceP ps n i):ps.filter (fun x=>less x.name n)=ps.take i:=by
 have e:ps=ps.take i++ps.drop i:=(List.take_append_drop i ps).symm
 conv=>lhs;rw [e]
 rw [List.filter_append,List.filter_eq_self.2 (fun x hx=> ?_),List.filter_eq_nil_iff.2 (fun x hx=> ?_),List.append_nil]
 ·obtain ⟨j,hj⟩:=List.getElem?_of_mem hx
  rw [List.getElem?_drop] at hj
  rw [h.hi (i+j) x (by omega) hj]
  simp
 ·obtain ⟨j,hj⟩:=List.getElem?_of_mem hx
  have hjl:=(List.getElem?_eq_some_iff.1 hj).1
  rw [List.length_take] at hjl
  rw [List.getElem?_take_of_lt (by omega)] at hj
  exact h.lo j x (by omega) hj
theorem PlaceP.above {ps:List Pd} {n:ByteArray} {i:Nat} (h:PlaceP ps n i):ps.filter (fun x=> !(less x.name n)&& !decide (x.name=n))=(ps.drop i).filter (fun x=> !decide (x.name=n)):=by
 have e:ps=ps.take i++ps.drop i:=(List.take_append_drop i ps).symm
 conv=>lhs;rw [e]
 rw [List.filter_append,List.filter_eq_nil_iff.2 (fun x hx=> ?_),List.nil_append]
 ·refine List.filter_congr (fun x hx=> ?_)
  obtain ⟨j,hj⟩:=List.getElem?_of_mem hx
  rw [List.getElem?_drop] at hj
  rw [h.hi (i+j) x (by omega) hj]
  simp
 ·obtain ⟨j,hj⟩:=List.getElem?_of_mem hx
  have hjl:=(List.getElem?_eq_some_iff.1 hj).1
  rw [List.length_take] at hjl
  rw [List.getElem?_take_of_lt (by omega)] at hj
  rw [h.lo j x (by omega) hj]
  simp
theorem pinP_insert {ps:List Pd} {n s:ByteArray} {i:Nat} (h:PlaceP ps n i) (hth:¬∃x∈ps,x.name=n):pinP ps n s=ps.take i++[⟨n,s⟩]++ps.drop i:=by
 unfold pinP
 rw [h.split,h.above,List.filter_eq_self.2 (fun x hx=> ?_)]
 have hn:x.name≠n:=fun e=>hth ⟨x,List.mem_of_mem_drop hx,e⟩
 simpa using hn
theorem pinP_set {ps:List Pd} {n s:ByteArray} {i:Nat} {x:Pd} (h:PlaceP ps n i) (hx:ps[i]?=some x) (hn:x.name=n) (hsort:ps.Pairwise (fun a b=>less a.name b.name=true)):pinP ps n s=ps.set i ⟨n,s⟩:=by
 obtain ⟨hil,e⟩:=List.getElem?_eq_some_iff.1 hx
 unfold pinP
 rw [h.split,h.above,List.drop_eq_getElem_cons hil,List.filter_cons,e,hn]
 simp only [decide_true,Bool.not_true,Bool.false_eq_true,if_false]
 rw [List.filter_eq_self.2 (fun y hy=> ?_),List.set_eq_take_append_cons_drop,if_pos hil,List.append_assoc]
 ·rfl
 ·obtain ⟨j,hj⟩:=List.getElem?_of_mem hy
  rw [List.getElem?_drop] at hj
  obtain ⟨hjl,e2⟩:=List.getElem?_eq_some_iff.1 hj
  have:=List.pairwise_iff_getElem.1 hsort i (i+1+j) hil hjl (by omega)
  rw [e,e2,hn] at this
  have hne:y.name≠n:=fun e3=>by rw [e3,less_irrefl] at this;cases this
  simpa using hne
end Go.Proofs.YtpekbmegopfhfaaGreatDoor
