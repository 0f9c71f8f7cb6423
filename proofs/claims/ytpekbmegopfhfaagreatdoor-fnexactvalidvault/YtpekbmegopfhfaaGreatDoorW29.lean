import Derived.Test.YtpekbmegopfhfaaGreatDoorW14
import Derived.Test.YtpekbmegopfhfaaGreatDoorW17
import Derived.Test.YtpekbmegopfhfaaGreatDoorW04
import Derived.Test.YtpekbmegopfhfaaGreatDoorW05
import Derived.Test.YtpekbmegopfhfaaGreatDoorW13
import Derived.Test.YtpekbmegopfhfaaGreatDoorW22
import Derived.Test.YtpekbmegopfhfaaGreatDoorW27
namespace Go.Proofs.YtpekbmegopfhfaaGreatDoor
open Go.ChangeShapes Go.WideShapes Go.ChangeAt Go.RowKit
set_option maxRecDepth 20000 in
set_option maxHeartbeats 4000000 in
theorem attempt_any (d:Nat) (V:List Nat) (kd:Int) (s nm tx:ByteArray) (num:Int) (ra:Option Addr) (rn rc:Nat) (Rn:Int->ByteArray->ByteArray->Prop) (Ry:ByteArray->Int->World->Prop) (w:World) (hV:∀b∈V,b<w.heap.size)
 (hst:∀sm le X X' R cur,Ry sm le X->X.heap[R]?=some (.cells cur 30)->w.heap.size<=R->Tn [R] X X'->Ry sm le X')
 (h:∀X,Below w.heap.size w X->Calls Tryz.prog 139 #[.pointer (some ⟨d,0,none⟩),.agg #[.int .i64 kd,.string s,.string nm,.int .i64 num,.string tx,.slice ra rn rc]] X fun e w'=>(∃c a b,Rn c a b/\e=.panicked [{v:=refV c a b,recovered:=false}]/\Tn V X w')∨(∃sm le,e=.returned (.agg #[.int .i64 0,.int .i64 0,.int .i64 0,.int .i64 0,.int .i64 0,.slice none 0 0,.slice none 0 0,.slice none 0 0,.string sm,.int .i64 le,.string ⟨#[]⟩,.string ⟨#[]⟩])/\Ry sm le w'/\Tn V X w')):
 Calls Tryz.prog 94 #[.pointer (some ⟨d,0,none⟩),.agg #[.int .i64 kd,.string s,.string nm,.int .i64 num,.string tx,.slice ra rn rc]] w fun e w'=>(∃c a b,Rn c a b/\e=.returned (.agg (refC c a b).toArray)/\Tn V w w')∨(∃sm le,e=.returned (.agg #[.int .i64 0,.int .i64 0,.int .i64 0,.int .i64 0,.int .i64 0,.slice none 0 0,.slice none 0 0,.slice none 0 0,.string sm,.int .i64 le,.string ⟨#[]⟩,.string ⟨#[]⟩])/\Ry sm le w'/\Tn V w w'):=by
 suffices hs:∀Q:Ending->World->Prop,(∀c a b w'',Rn c a b->Tn V w w''->Q (.returned (.agg (refC c a b).toArray)) w'')->(∀sm le w'',Ry sm le w''->Tn V w w''->Q (.returned (.agg #[.int .i64 0,.int .i64 0,.int .i64 0,.int .i64 0,.int .i64 0,.slice none 0 0,.slice none 0 0,.slice none 0 0,.string sm,.int .i64 le,.string ⟨#[]⟩,.string ⟨#[]⟩])) w'')->Calls Tryz.prog 94 #[.pointer (some ⟨d,0,none⟩),.agg #[.int .i64 kd,.string s,.string nm,.int .i64 num,.string tx,.slice ra rn rc]] w Q from
  hs _ (fun c a b w'' h1 h2=> .inl ⟨c,a,b,h1,rfl,h2⟩) (fun sm le w'' h1 h2=> .inr ⟨sm,le,rfl,h1,h2⟩)
 intro Q hQn hQy
 have HQn:Hid _:=hQn
 have HQy:Hid _:=hQy
 clear hQn hQy
 have hmf:∀(fn:Fn) (first cap:Array Value) (w:World),(Instr.makeFunc fn first cap).run Tryz.prog w=.ok (.func fn first cap) w:=fun _ _ _ _=>rfl
 obtain ⟨W,hW⟩:∃W,W=(w.alloc (.cells #[.int .i64 kd,.string s,.string nm,.int .i64 num,.string tx,.slice ra rn rc] 77)).alloc (.cells #[.int .i64 0,.int .i64 0,.int .i64 0,.int .i64 0,.int .i64 0,.slice none 0 0,.slice none 0 0,.slice none 0 0,.string ⟨#[]⟩,.int .i64 0,.string ⟨#[]⟩,.string ⟨#[]⟩] 30):=⟨_,rfl⟩
 have hB:Below w.heap.size w W:=by rw [hW];exact ((Below.refl _ _).alloc (Nat.le_refl _) _).alloc (by simp) _
 have hzW:W.heap.size=w.heap.size+2:=by rw [hW];simp
 have xE:CellsAt W w.heap.size [.int .i64 kd,.string s,.string nm,.int .i64 num,.string tx,.slice ra rn rc]:=by
  have h1:=CellsAt.new w [.int .i64 kd,.string s,.string nm,.int .i64 num,.string tx,.slice ra rn rc] 77
  rw [hW]
  exact CellsAt.below h1 ((Below.refl _ _).alloc (Nat.le_refl _) _)
 have zR:CellsAt W (w.heap.size+1) z12:=by
  have h1:=CellsAt.new (w.alloc (.cells #[.int .i64 kd,.string s,.string nm,.int .i64 num,.string tx,.slice ra rn rc] 77)) z12 30
  rw [World.size_alloc] at h1
  rw [hW]
  exact h1
 have hRb:W.heap[w.heap.size+1]?=some (.cells #[.int .i64 0,.int .i64 0,.int .i64 0,.int .i64 0,.int .i64 0,.slice none 0 0,.slice none 0 0,.slice none 0 0,.string ⟨#[]⟩,.int .i64 0,.string ⟨#[]⟩,.string ⟨#[]⟩] 30):=by
  have:=heap_alloc_new (w.alloc (.cells #[.int .i64 kd,.string s,.string nm,.int .i64 num,.string tx,.slice ra rn rc] 77)) (.cells #[.int .i64 0,.int .i64 0,.int .i64 0,.int .i64 0,.int .i64 0,.slice none 0 0,.slice none 0 0,.slice none 0 0,.string ⟨#[]⟩,.int .i64 0,.string ⟨#[]⟩,.string ⟨#[]⟩] 30)
  rw [World.size_alloc] at this
  rw [hW]
  exact this
 obtain ⟨e0,_⟩:=xE 0 _ rfl
 obtain ⟨e1,_⟩:=xE 1 _ rfl
 obtain ⟨e2,_⟩:=xE 2 _ rfl
 obtain ⟨e3,_⟩:=xE 3 _ rfl
 obtain ⟨e4,_⟩:=xE 4 _ rfl
 obtain ⟨e5,_⟩:=xE 5 _ rfl
 have HC:Hid _:=h W hB
 have HW:Hid _:=hW
 have HZ:Hid (CellsAt W (w.heap.size+1) z12/\W.heap[w.heap.size+1]?=some (.cells #[.int .i64 0,.int .i64 0,.int .i64 0,.int .i64 0,.int .i64 0,.slice none 0 0,.slice none 0 0,.slice none 0 0,.string ⟨#[]⟩,.int .i64 0,.string ⟨#[]⟩,.string ⟨#[]⟩] 30)/\Below w.heap.size w W/\W.heap.size=w.heap.size+2):=⟨zR,hRb,hB,hzW⟩
 have HV:Hid (∀b∈V,b<w.heap.size):=hV
 have HSt:Hid _:=hst
 clear hW zR hzW xE h hRb hB hV hst
 go_enter_defers Tryz.func94,Tryz.ntmps94
 go_upto_region 1 with fail
 rw [←HW.out]
 clear HW
 go_wp2_with fail
 refine Calls.mono HC.out ?_
 intro e w1 hch
 have zz:=HZ.out.2.2.2
 have hnv:w.heap.size+1∉V:=fun h=>by have:=HV.out _ h;omega
 obtain ⟨c,a,b,hno,rfl,ht1⟩|⟨sm,le,rfl,hy,ht1⟩:=hch
 ·have zR1:CellsAt w1 (w.heap.size+1) z12:=CellsAt.same HZ.out.1 (ht1.block _ (by omega) hnv)
  clear e0 e1 e2 e3 e4 e5 HC
  refine leaves_cons (f:=138) (args:= #[.pointer (some ⟨w.heap.size+1,0,none⟩)]) (by simp) (by simp [go_sem]) ?_
  refine (catch_panic (w.heap.size+1) c a b w1 zR1).mono ?_
  rintro e u' w'' ⟨rfl,rfl,hc,ht⟩
  have y0:=(hc 0 _ rfl).1
  have y1:=(hc 1 _ rfl).1
  have y2:=(hc 2 _ rfl).1
  have y3:=(hc 3 _ rfl).1
  have y4:=(hc 4 _ rfl).1
  have y5:=(hc 5 _ rfl).1
  have y6:=(hc 6 _ rfl).1
  have y7:=(hc 7 _ rfl).1
  have y8:=(hc 8 _ rfl).1
  have y9:=(hc 9 _ rfl).1
  have y10:=(hc 10 _ rfl).1
  have y11:=(hc 11 _ rfl).1
  have HF:Hid (Rn c a b/\Tn V w w''):=⟨hno,Tn.fresh ((Tn.of HZ.out.2.2.1).trans ht1) ht (by omega)⟩
  clear hc ht hno
  simp [Leaves,settle,results,Tryz.results94,go_sem,y0,y1,y2,y3,y4,y5,y6,y7,y8,y9,y10,y11]
  exact HQn.out c a b _ HF.out.1 HF.out.2
 ·have zR1:CellsAt w1 (w.heap.size+1) z12:=CellsAt.same HZ.out.1 (ht1.block _ (by omega) hnv)
  have hR1:w1.heap[w.heap.size+1]?=some (.cells #[.int .i64 0,.int .i64 0,.int .i64 0,.int .i64 0,.int .i64 0,.slice none 0 0,.slice none 0 0,.slice none 0 0,.string ⟨#[]⟩,.int .i64 0,.string ⟨#[]⟩,.string ⟨#[]⟩] 30):=(ht1.block _ (by omega) hnv).trans HZ.out.2.1
  have H1:Hid _:=And.intro hy (And.intro ht1 hR1)
  obtain ⟨⟨y0,q0⟩,⟨y1,q1⟩,⟨y2,q2⟩,⟨y3,q3⟩,⟨y4,q4⟩,⟨y5,q5⟩,⟨y6,q6⟩,⟨y7,q7⟩,⟨y8,q8⟩,⟨y9,q9⟩,⟨y10,q10⟩,y11,q11⟩:=z12at zR1
  clear hy ht1 zR1 hR1 e0 e1 e2 e3 e4 e5 HC zz hnv
  go_wp2
  refine leaves_cons (f:=138) (args:= #[.pointer (some ⟨w.heap.size+1,0,none⟩)]) (by simp) (by simp [go_sem]) ?_
  refine (catch_idle ⟨w.heap.size+1,0,none⟩ _).mono ?_
  rintro e u' w'' ⟨rfl,rfl,rfl⟩
  have HT:Hid _:=tn12 w1 (w.heap.size+1) (.int .i64 0) (.int .i64 0) (.int .i64 0) (.int .i64 0) (.int .i64 0) (.slice none 0 0) (.slice none 0 0) (.slice none 0 0) (.string sm) (.int .i64 le) (.string ⟨#[]⟩) (.string ⟨#[]⟩)
  have HF:Hid _:=And.intro (HSt.out sm le _ _ _ _ H1.out.1 H1.out.2.2 (by omega) HT.out) (Tn.fresh ((Tn.of HZ.out.2.2.1).trans H1.out.2.1) HT.out (by omega))
  simp [Leaves,settle,results,Tryz.results94,go_sem,y0,y1,y2,y3,y4,y5,y6,y7,y8,y9,y10,y11]
  exact HQy.out sm le _ HF.out.1 HF.out.2
end Go.Proofs.YtpekbmegopfhfaaGreatDoor
namespace Go.Proofs.YtpekbmegopfhfaaGreatDoor
open Go.ChangeShapes Go.WideShapes Go.ChangeAt Go.RowKit
theorem pin_yes (base d m:Nat) (O P L:Value) (wd now given births:Int) (ks:List Kd) (ps:List Pd) (ls:List Ld) (n s:ByteArray) (w:World) (h:DU w base d m O P L wd now given births ks ps ls) (hsz:∀k∈ks,(k.sum.size:Int)=wd) (hths:There ks s) (hl:ps.length<=100) (hsort:ps.Pairwise (fun a b=>less a.name b.name=true)) (hroom:(∃x∈ps,x.name=n)∨ps.length<100):
 Calls Tryz.prog 170 #[.pointer (some ⟨d,0,none⟩),.string n,.string s] w fun e w'=>e=.returned (.tuple #[])/\∃P',DU w' base d m O P' L wd now given births ks (pinP ps n s) ls/\Tn (d::P.ownBlock.toList) w w':=by
 by_cases hth:∃x∈ps,x.name=n
 ·exact pin_old base d m O P L wd now given births ks ps ls n s w h hsz hths (by omega) hsort hth
 ·exact pin_new base d m O P L wd now given births ks ps ls n s w h hsz hths (by rcases hroom with h|h;exact absurd h hth;exact h) hsort hth
set_option maxRecDepth 20000 in
set_option maxHeartbeats 4000000 in
theorem changePin_yes (base d m:Nat) (O P L:Value) (wd now given births:Int) (ks:List Kd) (ps:List Pd) (ls:List Ld) (s nm tx:ByteArray) (num:Int) (ra:Option Addr) (rn rc:Nat) (w:World) (h:DU w base d m O P L wd now given births ks ps ls) (hsz:∀k∈ks,(k.sum.size:Int)=wd) (hths:There ks s) (hl:ps.length<=100) (hsort:ps.Pairwise (fun a b=>less a.name b.name=true)) (hroom:(∃x∈ps,x.name=nm)∨ps.length<100):
 Calls Tryz.prog 139 #[.pointer (some ⟨d,0,none⟩),.agg #[.int .i64 2,.string s,.string nm,.int .i64 num,.string tx,.slice ra rn rc]] w fun e w'=>e=.returned (.agg z12.toArray)/\∃P',DU w' base d m O P' L wd now given births ks (pinP ps nm s) ls/\Tn (d::P.ownBlock.toList) w w':=by
 obtain ⟨W,hW⟩:∃W,W=((w.alloc (.cells #[.int .i64 2,.string s,.string nm,.int .i64 num,.string tx,.slice ra rn rc] 77)).alloc (.cells #[.int .i64 0,.int .i64 0,.int .i64 0,.int .i64 0,.int .i64 0,.slice none 0 0,.slice none 0 0,.slice none 0 0,.string ⟨#[]⟩,.int .i64 0,.string ⟨#[]⟩,.string ⟨#[]⟩] 30)).alloc (.cells #[.int .i64 0,.int .i64 0,.int .i64 0,.int .i64 0,.int .i64 0,.slice none 0 0,.slice none 0 0,.slice none 0 0,.string ⟨#[]⟩,.int .i64 0,.string ⟨#[]⟩,.string ⟨#[]⟩] 30):=⟨_,rfl⟩
 have hB:Below w.heap.size w W:=by rw [hW];exact (((Below.refl _ _).alloc (Nat.le_refl _) _).alloc (by simp) _).alloc (by simp;omega) _
 have hzW:W.heap.size=w.heap.size+3:=by rw [hW];simp
 have xE:CellsAt W w.heap.size [.int .i64 2,.string s,.string nm,.int .i64 num,.string tx,.slice ra rn rc]:=by
  have h1:=CellsAt.new w [.int .i64 2,.string s,.string nm,.int .i64 num,.string tx,.slice ra rn rc] 77
  rw [hW]
  exact CellsAt.below (CellsAt.below h1 ((Below.refl _ _).alloc (Nat.le_refl _) _)) ((Below.refl _ _).alloc (Nat.le_refl _) _)
 have zR:CellsAt W (w.heap.size+1) z12:=by
  have h1:=CellsAt.new (w.alloc (.cells #[.int .i64 2,.string s,.string nm,.int .i64 num,.string tx,.slice ra rn rc] 77)) z12 30
  rw [World.size_alloc] at h1
  rw [hW]
  exact CellsAt.below (v:=.int .i64 0) h1 ((Below.refl _ _).alloc (Nat.le_refl _) _)
 have zO:CellsAt W (w.heap.size+2) z12:=by
  have h1:=CellsAt.new ((w.alloc (.cells #[.int .i64 2,.string s,.string nm,.int .i64 num,.string tx,.slice ra rn rc] 77)).alloc (.cells #[.int .i64 0,.int .i64 0,.int .i64 0,.int .i64 0,.int .i64 0,.slice none 0 0,.slice none 0 0,.slice none 0 0,.string ⟨#[]⟩,.int .i64 0,.string ⟨#[]⟩,.string ⟨#[]⟩] 30)) z12 30
  rw [World.size_alloc,World.size_alloc] at h1
  rw [hW]
  exact h1
 have hRb:W.heap[w.heap.size+1]?=some (.cells #[.int .i64 0,.int .i64 0,.int .i64 0,.int .i64 0,.int .i64 0,.slice none 0 0,.slice none 0 0,.slice none 0 0,.string ⟨#[]⟩,.int .i64 0,.string ⟨#[]⟩,.string ⟨#[]⟩] 30):=by
  rw [hW,Below.heap_alloc _ _ _ (by simp)]
  have:=heap_alloc_new (w.alloc (.cells #[.int .i64 2,.string s,.string nm,.int .i64 num,.string tx,.slice ra rn rc] 77)) (.cells #[.int .i64 0,.int .i64 0,.int .i64 0,.int .i64 0,.int .i64 0,.slice none 0 0,.slice none 0 0,.slice none 0 0,.string ⟨#[]⟩,.int .i64 0,.string ⟨#[]⟩,.string ⟨#[]⟩] 30)
  rw [World.size_alloc] at this
  exact this
 have hD:=h.below hB
 have hdl:=h.dr.box.lt
 have hlt:∀b∈d::P.ownBlock.toList,b<w.heap.size:=fun b hb=>h.dr.lts b (by unfold vB;simp at hb ⊢;rcases hb with rfl|hb<;>simp [*])
 have HC:Hid _:=pin_yes base d m O P L wd now given births ks ps ls nm s W hD hsz hths hl hsort hroom
 have HW:Hid _:=hW
 have HZ:Hid (CellsAt W (w.heap.size+1) z12/\CellsAt W (w.heap.size+2) z12/\W.heap[w.heap.size+1]?=some (.cells #[.int .i64 0,.int .i64 0,.int .i64 0,.int .i64 0,.int .i64 0,.slice none 0 0,.slice none 0 0,.slice none 0 0,.string ⟨#[]⟩,.int .i64 0,.string ⟨#[]⟩,.string ⟨#[]⟩] 30)/\Below w.heap.size w W/\W.heap.size=w.heap.size+3/\base<=w.heap.size):=⟨zR,zO,hRb,hB,hzW,h.lo⟩
 have HLt:Hid (∀b∈d::P.ownBlock.toList,b<w.heap.size):=hlt
 obtain ⟨e0,_⟩:=xE 0 _ rfl
 obtain ⟨e1,_⟩:=xE 1 _ rfl
 obtain ⟨e2,_⟩:=xE 2 _ rfl
 obtain ⟨e3,_⟩:=xE 3 _ rfl
 clear hW h hD zR zO hRb hB hzW xE hlt
 go_enter Tryz.func139,Tryz.ntmps139
 go_upto_region 2 with fail
 rw [←HW.out]
 clear HW
 go_wp2_with fail
 refine Calls.mono HC.out ?_
 rintro e w1 ⟨rfl,V,hd1,ht1⟩
 have zz:=HZ.out.2.2.2.2.1
 have zR1:CellsAt w1 (w.heap.size+1) z12:=CellsAt.same HZ.out.1 (ht1.block _ (by omega) (fun h=>by have:=HLt.out _ h;omega))
 have zO1:CellsAt w1 (w.heap.size+2) z12:=CellsAt.same HZ.out.2.1 (ht1.block _ (by omega) (fun h=>by have:=HLt.out _ h;omega))
 have hR1:w1.heap[w.heap.size+1]?=some (.cells #[.int .i64 0,.int .i64 0,.int .i64 0,.int .i64 0,.int .i64 0,.slice none 0 0,.slice none 0 0,.slice none 0 0,.string ⟨#[]⟩,.int .i64 0,.string ⟨#[]⟩,.string ⟨#[]⟩] 30):=(ht1.block _ (by omega) (fun h=>by have:=HLt.out _ h;omega)).trans HZ.out.2.2.1
 have HD1:Hid _:=And.intro hd1 (And.intro ht1 (hd1.notin hR1 (by omega)))
 obtain ⟨⟨y0,q0⟩,⟨y1,q1⟩,⟨y2,q2⟩,⟨y3,q3⟩,⟨y4,q4⟩,⟨y5,q5⟩,⟨y6,q6⟩,⟨y7,q7⟩,⟨y8,q8⟩,⟨y9,q9⟩,⟨y10,q10⟩,y11,q11⟩:=z12at zR1
 obtain ⟨⟨v0,_⟩,⟨v1,_⟩,⟨v2,_⟩,⟨v3,_⟩,⟨v4,_⟩,⟨v5,_⟩,⟨v6,_⟩,⟨v7,_⟩,⟨v8,_⟩,⟨v9,_⟩,⟨v10,_⟩,v11,_⟩:=z12at zO1
 clear hd1 ht1 zR1 zO1 hR1 e0 e1 e2 e3 HC zz
 go_wp2
 refine bodyPost_ret (v:=.agg z12.toArray) (by simp [results,Tryz.results139,go_sem,y0,y1,y2,y3,y4,y5,y6,y7,y8,y9,y10,y11,z12]) rfl ⟨rfl,V,HD1.out.1.turn (tn12 w1 (w.heap.size+1) _ _ _ _ _ _ _ _ _ _ _ _) (by intro b hb;simp at hb;subst hb;exact ⟨by have:=HZ.out.2.2.2.2.2;omega,HD1.out.2.2⟩),Tn.fresh ((Tn.of HZ.out.2.2.2.1).trans HD1.out.2.1) (tn12 w1 (w.heap.size+1) _ _ _ _ _ _ _ _ _ _ _ _) (by omega)⟩
set_option maxRecDepth 20000 in
set_option maxHeartbeats 4000000 in
theorem changeDropV_yes (base d m:Nat) (O P L:Value) (wd now given births:Int) (ks:List Kd) (ps:List Pd) (ls:List Ld) (s nm tx:ByteArray) (num:Int) (ra:Option Addr) (rn rc:Nat) (w:World) (hd:Dr w base d m O P L wd now given births ks ps ls) (hok:KsOk wd ks) (hp:ps.length<=100) (hl:ls.length<=200) (hth:There ks s) (hfree:¬(((∃p∈ps,p.sum=s)∨∃l∈ls,l.sum=s)∨∃k∈ks,s∈k.refs)):
 Calls Tryz.prog 139 #[.pointer (some ⟨d,0,none⟩),.agg #[.int .i64 7,.string s,.string nm,.int .i64 num,.string tx,.slice ra rn rc]] w fun e w'=>e=.returned (.agg z12.toArray)/\∃O',Dr w' base d m O' P L wd now given births (dropK ks s) ps ls/\O'.ownBlock=O.ownBlock/\Tn (vB d m O P L) w w':=by
 obtain ⟨W,hW⟩:∃W,W=((w.alloc (.cells #[.int .i64 7,.string s,.string nm,.int .i64 num,.string tx,.slice ra rn rc] 77)).alloc (.cells #[.int .i64 0,.int .i64 0,.int .i64 0,.int .i64 0,.int .i64 0,.slice none 0 0,.slice none 0 0,.slice none 0 0,.string ⟨#[]⟩,.int .i64 0,.string ⟨#[]⟩,.string ⟨#[]⟩] 30)).alloc (.cells #[.int .i64 0,.int .i64 0,.int .i64 0,.int .i64 0,.int .i64 0,.slice none 0 0,.slice none 0 0,.slice none 0 0,.string ⟨#[]⟩,.int .i64 0,.string ⟨#[]⟩,.string ⟨#[]⟩] 30):=⟨_,rfl⟩
 have hB:Below w.heap.size w W:=by rw [hW];exact (((Below.refl _ _).alloc (Nat.le_refl _) _).alloc (by simp) _).alloc (by simp;omega) _
 have hzW:W.heap.size=w.heap.size+3:=by rw [hW];simp
 have e0:W.cell? ⟨w.heap.size,0,none⟩=some (.int .i64 7):=by rw [hW];simp [go_sem]
 have e1:W.cell? ⟨w.heap.size,1,none⟩=some (.string s):=by rw [hW];simp [go_sem]
 have zR:CellsAt W (w.heap.size+1) z12:=by
  have h1:=CellsAt.new (w.alloc (.cells #[.int .i64 7,.string s,.string nm,.int .i64 num,.string tx,.slice ra rn rc] 77)) z12 30
  rw [World.size_alloc] at h1
  rw [hW]
  exact CellsAt.below (v:=.int .i64 0) h1 ((Below.refl _ _).alloc (Nat.le_refl _) _)
 have zO:CellsAt W (w.heap.size+2) z12:=by
  have h1:=CellsAt.new ((w.alloc (.cells #[.int .i64 7,.string s,.string nm,.int .i64 num,.string tx,.slice ra rn rc] 77)).alloc (.cells z12.toArray 30)) z12 30
  rw [World.size_alloc,World.size_alloc] at h1
  rw [hW]
  exact h1
 have HD:Hid _:=hd.below hB
 have HV:Hid (∀b∈vB d m O P L,b<w.heap.size):=by
  intro b hb
  unfold vB at hb
  simp only [List.mem_cons,List.mem_append,Option.mem_toList] at hb
  rcases hb with rfl|rfl|hb|hb|hb
  ·exact hd.box.lt
  ·exact (hd.map.choose_spec.choose_spec.2.1).lt
  ·exact (own_lt hd.ord hb).2
  ·exact (own_lt hd.pin hb).2
  ·exact (own_lt hd.lea hb).2
 have HR:Hid (W.heap[w.heap.size+1]?=some (.cells #[.int .i64 0,.int .i64 0,.int .i64 0,.int .i64 0,.int .i64 0,.slice none 0 0,.slice none 0 0,.slice none 0 0,.string ⟨#[]⟩,.int .i64 0,.string ⟨#[]⟩,.string ⟨#[]⟩] 30)):=by
  show _=_
  rw [hW,Below.heap_alloc _ _ _ (by simp)]
  have:=heap_alloc_new (w.alloc (.cells #[.int .i64 7,.string s,.string nm,.int .i64 num,.string tx,.slice ra rn rc] 77)) (.cells #[.int .i64 0,.int .i64 0,.int .i64 0,.int .i64 0,.int .i64 0,.slice none 0 0,.slice none 0 0,.slice none 0 0,.string ⟨#[]⟩,.int .i64 0,.string ⟨#[]⟩,.string ⟨#[]⟩] 30)
  rw [World.size_alloc] at this
  exact this
 have hbase:base<=w.heap.size:=by have:=hd.bd;have:=hd.box.lt;omega
 have HW:Hid _:=hW
 have HZ:Hid _:=And.intro zR zO
 have HzW:Hid _:=hzW
 clear hW hd zR zO hzW
 go_enter Tryz.func139,Tryz.ntmps139
 go_upto_region 2 with fail
 rw [←HW.out]
 clear HW
 go_wp2_with fail
 refine (drop_yes base d m O P L wd now given births ks ps ls s W HD.out hok hp hl hth hfree).mono ?_
 rintro e w1 ⟨rfl,O',hd1,hO,ht1⟩
 have zR1:CellsAt w1 (w.heap.size+1) z12:=CellsAt.same HZ.out.1 (ht1.block _ (by have:=HzW.out;omega) (fun h=>by have:=HV.out _ h;omega))
 have zO1:CellsAt w1 (w.heap.size+2) z12:=CellsAt.same HZ.out.2 (ht1.block _ (by have:=HzW.out;omega) (fun h=>by have:=HV.out _ h;omega))
 obtain ⟨⟨y0,q0⟩,⟨y1,q1⟩,⟨y2,q2⟩,⟨y3,q3⟩,⟨y4,q4⟩,⟨y5,q5⟩,⟨y6,q6⟩,⟨y7,q7⟩,⟨y8,q8⟩,⟨y9,q9⟩,⟨y10,q10⟩,y11,q11⟩:=z12at zR1
 obtain ⟨⟨v0,_⟩,⟨v1,_⟩,⟨v2,_⟩,⟨v3,_⟩,⟨v4,_⟩,⟨v5,_⟩,⟨v6,_⟩,⟨v7,_⟩,⟨v8,_⟩,⟨v9,_⟩,⟨v10,_⟩,v11,_⟩:=z12at zO1
 have H1:Hid _:=And.intro hd1 (And.intro hO ht1)
 clear hd1 hO ht1 zR1 zO1 e0 e1 HD
 go_wp2
 have hRv:w.heap.size+1∉vB d m O' P L:=fun h=>by
  have:w.heap.size+1∈vB d m O P L:=by
   unfold vB at h ⊢
   rw [H1.out.2.1] at h
   exact h
  have:=HV.out _ this
  omega
 have hRs:∀cur fz,w1.heap[w.heap.size+1]?≠some (.cells cur 9 fz):=fun cur fz e=>by
  have h1:=H1.out.2.2.block (w.heap.size+1) (by have:=HzW.out;omega) (fun h=>by have:=HV.out _ h;omega)
  rw [e,HR.out] at h1
  simp at h1
 refine bodyPost_ret (v:=.agg z12.toArray) (by simp [results,Tryz.results139,go_sem,y0,y1,y2,y3,y4,y5,y6,y7,y8,y9,y10,y11,z12]) rfl ⟨rfl,O',Dr.apart H1.out.1 (tn12 w1 _ _ _ _ _ _ _ _ _ _ _ _ _) (by omega) hRv hRs,H1.out.2.1,Tn.fresh ((Tn.of hB).trans H1.out.2.2) (tn12 w1 _ _ _ _ _ _ _ _ _ _ _ _ _) (by omega)⟩
set_option maxRecDepth 20000 in
set_option maxHeartbeats 4000000 in
theorem changeDropV_held (base d m:Nat) (O P L:Value) (wd now given births:Int) (ks:List Kd) (ps:List Pd) (ls:List Ld) (s nm tx:ByteArray) (num:Int) (ra:Option Addr) (rn rc:Nat) (w:World) (hd:Dr w base d m O P L wd now given births ks ps ls) (hok:KsOk wd ks) (hp:ps.length<=100) (hl:ls.length<=200) (hth:There ks s) (huse:((∃p∈ps,p.sum=s)∨∃l∈ls,l.sum=s)∨∃k∈ks,s∈k.refs):
 Calls Tryz.prog 139 #[.pointer (some ⟨d,0,none⟩),.agg #[.int .i64 7,.string s,.string nm,.int .i64 num,.string tx,.slice ra rn rc]] w fun e w'=>e=.panicked [{v:=refV 6 ⟨#[]⟩ ⟨#[]⟩,recovered:=false}]/\Below w.heap.size w w':=by
 obtain ⟨W,hW⟩:∃W,W=((w.alloc (.cells #[.int .i64 7,.string s,.string nm,.int .i64 num,.string tx,.slice ra rn rc] 77)).alloc (.cells #[.int .i64 0,.int .i64 0,.int .i64 0,.int .i64 0,.int .i64 0,.slice none 0 0,.slice none 0 0,.slice none 0 0,.string ⟨#[]⟩,.int .i64 0,.string ⟨#[]⟩,.string ⟨#[]⟩] 30)).alloc (.cells #[.int .i64 0,.int .i64 0,.int .i64 0,.int .i64 0,.int .i64 0,.slice none 0 0,.slice none 0 0,.slice none 0 0,.string ⟨#[]⟩,.int .i64 0,.string ⟨#[]⟩,.string ⟨#[]⟩] 30):=⟨_,rfl⟩
 have hB:Below w.heap.size w W:=by rw [hW];exact (((Below.refl _ _).alloc (Nat.le_refl _) _).alloc (by simp) _).alloc (by simp;omega) _
 have e0:W.cell? ⟨w.heap.size,0,none⟩=some (.int .i64 7):=by rw [hW];simp [go_sem]
 have e1:W.cell? ⟨w.heap.size,1,none⟩=some (.string s):=by rw [hW];simp [go_sem]
 have HD:Hid _:=hd.below hB
 have HW:Hid _:=hW
 clear hW hd
 go_enter Tryz.func139,Tryz.ntmps139
 go_upto_region 2 with fail
 rw [←HW.out]
 clear HW
 go_wp2_with fail
 refine (drop_held base d m O P L wd now given births ks ps ls s W HD.out hok hp hl hth huse).mono ?_
 rintro e w1 ⟨rfl,hb1⟩
 exact ⟨rfl,rfl,hB.trans (hb1.mono hB.size)⟩
set_option maxHeartbeats 1000000 in
theorem drop_missing (base d m:Nat) (O P L:Value) (wd now given births:Int) (ks:List Kd) (ps:List Pd) (ls:List Ld) (s:ByteArray) (w:World) (hd:Dr w base d m O P L wd now given births ks ps ls) (hsz:∀k∈ks,(k.sum.size:Int)=wd) (hth:¬There ks s):
 Calls Tryz.prog 174 #[.pointer (some ⟨d,0,none⟩),.string s] w fun e w'=>e=.panicked [{v:=refV 2 ⟨#[]⟩ ⟨#[]⟩,recovered:=false}]/\Below w.heap.size w w':=by
 have HN:Hid _:=need_no base d m O P L wd now given births ks ps ls s w hd hsz hth
 clear hd hsz hth
 go_enter Tryz.func174,Tryz.ntmps174
 go_wp2_with fail
 refine Calls.mono HN.out ?_
 rintro e w1 ⟨rfl,hb1⟩
 go_wp2
 exact ⟨rfl,rfl,hb1⟩
set_option maxRecDepth 20000 in
set_option maxHeartbeats 4000000 in
theorem changeDropV_missing (base d m:Nat) (O P L:Value) (wd now given births:Int) (ks:List Kd) (ps:List Pd) (ls:List Ld) (s nm tx:ByteArray) (num:Int) (ra:Option Addr) (rn rc:Nat) (w:World) (hd:Dr w base d m O P L wd now given births ks ps ls) (hsz:∀k∈ks,(k.sum.size:Int)=wd) (hth:¬There ks s):
 Calls Tryz.prog 139 #[.pointer (some ⟨d,0,none⟩),.agg #[.int .i64 7,.string s,.string nm,.int .i64 num,.string tx,.slice ra rn rc]] w fun e w'=>e=.panicked [{v:=refV 2 ⟨#[]⟩ ⟨#[]⟩,recovered:=false}]/\Below w.heap.size w w':=by
 obtain ⟨W,hW⟩:∃W,W=((w.alloc (.cells #[.int .i64 7,.string s,.string nm,.int .i64 num,.string tx,.slice ra rn rc] 77)).alloc (.cells #[.int .i64 0,.int .i64 0,.int .i64 0,.int .i64 0,.int .i64 0,.slice none 0 0,.slice none 0 0,.slice none 0 0,.string ⟨#[]⟩,.int .i64 0,.string ⟨#[]⟩,.string ⟨#[]⟩] 30)).alloc (.cells #[.int .i64 0,.int .i64 0,.int .i64 0,.int .i64 0,.int .i64 0,.slice none 0 0,.slice none 0 0,.slice none 0 0,.string ⟨#[]⟩,.int .i64 0,.string ⟨#[]⟩,.string ⟨#[]⟩] 30):=⟨_,rfl⟩
 have hB:Below w.heap.size w W:=by rw [hW];exact (((Below.refl _ _).alloc (Nat.le_refl _) _).alloc (by simp) _).alloc (by simp;omega) _
 have e0:W.cell? ⟨w.heap.size,0,none⟩=some (.int .i64 7):=by rw [hW];simp [go_sem]
 have e1:W.cell? ⟨w.heap.size,1,none⟩=some (.string s):=by rw [hW];simp [go_sem]
 have HD:Hid _:=hd.below hB
 have HW:Hid _:=hW
 clear hW hd
 go_enter Tryz.func139,Tryz.ntmps139
 go_upto_region 2 with fail
 rw [←HW.out]
 clear HW
 go_wp2_with fail
 refine (drop_missing base d m O P L wd now given births ks ps ls s W HD.out hsz hth).mono ?_
 rintro e w1 ⟨rfl,hb1⟩
 exact ⟨rfl,rfl,hB.trans (hb1.mono hB.size)⟩
end Go.Proofs.YtpekbmegopfhfaaGreatDoor
namespace Go.Proofs.YtpekbmegopfhfaaGreatDoor
open Go.ChangeShapes Go.WideShapes Go.ChangeAt Go.RowKit
theorem rises {xs:List ByteArray} (h:∀(j:Nat) p q,xs[j]?=some p->xs[j+1]?=some q->less p q=true):xs.Pairwise (fun a b=>less a b=true):=by
 have hd:∀(d i:Nat) u v,xs[i]?=some u->xs[i+d+1]?=some v->less u v=true:=by
  intro d
  induction d with
  |zero=>intro i u v hu hv;exact h i u v hu hv
  |succ d ih=>
   intro i u v hu hv
   have hlt:=(List.getElem?_eq_some_iff.1 hv).1
   have hm:xs[i+d+1]?=some xs[i+d+1]:=List.getElem?_eq_getElem (by omega)
   exact less_trans (ih i u _ hu hm) (h _ _ _ hm (by rw [show i+d+1+1=i+(d+1)+1 by omega];exact hv))
 rw [List.pairwise_iff_getElem]
 intro i j hi hj hij
 exact hd (j -i -1) i _ _ (List.getElem?_eq_getElem hi) (by rw [show i+(j -i -1)+1=j by omega];exact List.getElem?_eq_getElem hj)
theorem rises_nodup {xs:List ByteArray} (h:xs.Pairwise (fun a b=>less a b=true)):xs.Nodup:=by
 refine List.Pairwise.imp ?_ h
 intro a b hab e
 rw [e,less_irrefl] at hab
 cases hab
theorem refs_rise {wd:Int} {ss:List ByteArray} (h:refsOk wd ss=true):ss.Pairwise (fun a b=>less a b=true):=by
 refine rises (fun j p q hp hq=> ?_)
 have hl:=(List.getElem?_eq_some_iff.1 hq).1
 unfold refsOk at h
 rw [List.all_eq_true] at h
 have:=h (j+1) (by simpa using hl)
 rw [refAt_succ hq hp] at this
 simp at this
 exact this.2
end Go.Proofs.YtpekbmegopfhfaaGreatDoor
namespace Go.Proofs.YtpekbmegopfhfaaGreatDoor
open Go.ChangeShapes Go.WideShapes Go.ChangeAt Go.RowKit
structure Rs where
 sm:ByteArray
 le:Int
 now:Int
 given:Int
 births:Int
 ks:List Kd
 ps:List Pd
 ls:List Ld
def AYes (wd now given births:Int) (ks:List Kd) (ps:List Pd) (ls:List Ld) (kd:Int) (s nm:ByteArray) (num:Int) (text:ByteArray) (refs:List ByteArray) (r:Rs):Prop:=
 (kd=1/\(∀r∈refs,There ks r)/\ls.length<200/\given<1000000000/\∃ks1 births1,PutYes wd births ks text refs ks1 births1/\r=⟨sumT text refs wd,given+1,now,given+1,births1,ks1,ps,ls++[⟨given+1,sumT text refs wd,now+num⟩]⟩)∨
 (kd=2/\There ks s/\((∃x∈ps,x.name=nm)∨ps.length<100)/\r=⟨⟨#[]⟩,0,now,given,births,ks,pinP ps nm s,ls⟩)∨
 (kd=3/\(∃x∈ps,x.name=nm)/\r=⟨⟨#[]⟩,0,now,given,births,ks,unpinP ps nm,ls⟩)∨
 (kd=4/\There ks s/\ls.length<200/\given<1000000000/\r=⟨⟨#[]⟩,given+1,now,given+1,births,ks,ps,ls++[⟨given+1,s,now+num⟩]⟩)∨
 (kd=5/\(∃x∈ls,x.num=num)/\r=⟨⟨#[]⟩,0,now,given,births,ks,ps,giveL ls num⟩)∨
 (kd=6/\now+num<=1000000000/\r=⟨⟨#[]⟩,0,now+num,given,births,ks,ps,waitL ls (now+num)⟩)∨
 (kd=7/\There ks s/\¬InUse ps ls ks s/\r=⟨⟨#[]⟩,0,now,given,births,dropK ks s,ps,ls⟩)
def ANo (wd now given births:Int) (ks:List Kd) (ps:List Pd) (ls:List Ld) (kd:Int) (s nm:ByteArray) (num:Int) (text:ByteArray) (refs:List ByteArray) (c:Int) (a b:ByteArray):Prop:=
 (kd=1/\PutNo wd given births ks ls text refs c a b)∨
 (a=⟨#[]⟩/\b=⟨#[]⟩/\(
   (kd=2/\((¬There ks s/\c=2)∨(There ks s/\(¬∃x∈ps,x.name=nm)/\ps.length=100/\c=4)))∨
   (kd=3/\(¬∃x∈ps,x.name=nm)/\c=5)∨
   (kd=4/\((¬There ks s/\c=2)∨(There ks s/\(ls.length=200∨given=1000000000)/\c=4)))∨
   (kd=5/\(¬∃x∈ls,x.num=num)/\c=5)∨
   (kd=6/\1000000000<now+num/\c=4)∨
   (kd=7/\((¬There ks s/\c=2)∨(There ks s/\InUse ps ls ks s/\c=6)))))
structure AOk (wd now given births:Int) (ks:List Kd) (ps:List Pd) (ls:List Ld) (kd num:Int) (text:ByteArray) (refs:List ByteArray):Prop where
 kso:KsOk wd ks
 w1:1<=wd
 np:ps.length<=100
 nl:ls.length<=200
 psort:ps.Pairwise (fun a b=>less a.name b.name=true)
 lsort:ls.Pairwise (fun a b=>a.num<b.num)
 now0:0<=now
 now1:now<=1000000000
 given0:0<=given
 given1:given<=1000000000
 births0:0<=births
 births1:births<=1000000000
 kd1:1<=kd
 kd7:kd<=7
 num0:0<=num
 num1:num<=1000000000
 txt:∀k∈ks,k.text.size<=maxLen
 txl:text.size<=maxLen
 rfn:refs.length<=1000
theorem sumT_size (text:ByteArray) (refs:List ByteArray) (wd:Int) (h:1<=wd):((sumT text refs wd).size:Int)=wd:=sumOf_size ⟨⟨#[]⟩,0,text,refs⟩ wd h
def Drd (base d m:Nat) (wd:Int) (r:Rs) (w:World):Prop:=∃O P L,Dr w base d m O P L wd r.now r.given r.births r.ks r.ps r.ls
theorem change_any (base d m:Nat) (O P L:Value) (wd now given births:Int) (ks:List Kd) (ps:List Pd) (ls:List Ld) (kd:Int) (s nm:ByteArray) (num:Int) (text:ByteArray) (refs:List ByteArray) (ra:Option Addr) (rc:Nat) (w:World) (h:DU w base d m O P L wd now given births ks ps ls) (ha:AOk wd now given births ks ps ls kd num text refs) (hr:RefV w base (vB d m O P L) ra refs):
 Calls Tryz.prog 139 #[.pointer (some ⟨d,0,none⟩),.agg #[.int .i64 kd,.string s,.string nm,.int .i64 num,.string text,.slice ra refs.length rc]] w fun e w'=>(∃c a b,ANo wd now given births ks ps ls kd s nm num text refs c a b/\e=.panicked [{v:=refV c a b,recovered:=false}]/\Tn (vB d m O P L) w w')∨(∃sm le,e=.returned (.agg #[.int .i64 0,.int .i64 0,.int .i64 0,.int .i64 0,.int .i64 0,.slice none 0 0,.slice none 0 0,.slice none 0 0,.string sm,.int .i64 le,.string ⟨#[]⟩,.string ⟨#[]⟩])/\(∃r,AYes wd now given births ks ps ls kd s nm num text refs r/\r.sm=sm/\r.le=le/\Drd base d m wd r w')/\Tn (vB d m O P L) w w'):=by
 have hP:∀b∈d::P.ownBlock.toList,b∈vB d m O P L:=by intro b hb;unfold vB;simp at hb ⊢;rcases hb with rfl|hb<;>simp [*]
 have hL:∀b∈d::L.ownBlock.toList,b∈vB d m O P L:=by intro b hb;unfold vB;simp at hb ⊢;rcases hb with rfl|hb<;>simp [*]
 have hD:∀X,Below w.heap.size w X->DU X base d m O P L wd now given births ks ps ls:=fun X hX=>h.below hX
 obtain rfl|rfl|rfl|rfl|rfl|rfl|rfl:kd=1∨kd=2∨kd=3∨kd=4∨kd=5∨kd=6∨kd=7:=by have:=ha.kd1;have:=ha.kd7;omega
 ·refine (changePut_any base d m O P L wd now given births ks ps ls s nm text num refs ra rc w h ha.kso ha.w1 ha.txt (sumT_size _ _ _ ha.w1) ha.txl ha.rfn ha.births0 ha.births1 hr ha.nl ha.given0 ha.given1 ha.now0 ha.now1 ha.num0 ha.num1).mono ?_
  rintro e w' (⟨c,a,b,h1,rfl,ht⟩|⟨ks1,births1,hall,hy,hl,hg,rfl,O',L',hd,ht⟩)
  ·exact .inl ⟨c,a,b,.inl ⟨rfl,h1⟩,rfl,ht⟩
  ·exact .inr ⟨_,_,rfl,⟨_,.inl ⟨rfl,hall,hl,hg,ks1,births1,hy,rfl⟩,rfl,rfl,⟨_,_,_,hd.dr⟩⟩,ht⟩
 ·by_cases hth:There ks s
  ·by_cases hroom:(∃x∈ps,x.name=nm)∨ps.length<100
   ·refine (changePin_yes base d m O P L wd now given births ks ps ls s nm text num ra refs.length rc w h ha.kso.sz hth ha.np ha.psort hroom).mono ?_
    rintro e w' ⟨rfl,P',hd,ht⟩
    exact .inr ⟨_,_,rfl,⟨_,.inr (.inl ⟨rfl,hth,hroom,rfl⟩),rfl,rfl,⟨_,_,_,hd.dr⟩⟩,ht.mono hP⟩
   ·have hno:¬∃x∈ps,x.name=nm:=fun e=>hroom (.inl e)
    have hfull:ps.length=100:=by have:=ha.np;have h2:¬ps.length<100:=fun e=>hroom (.inr e);omega
    refine (changePin_no d s nm text num ra refs.length rc 4 ⟨#[]⟩ ⟨#[]⟩ w (fun X hX=>pin_full base d m O P L wd now given births ks ps ls nm s X (hD X hX) ha.kso.sz hth hfull ha.psort hno)).mono ?_
    rintro e w' ⟨rfl,hb⟩
    exact .inl ⟨4,_,_,.inr ⟨rfl,rfl,.inl ⟨rfl,.inr ⟨hth,hno,hfull,rfl⟩⟩⟩,rfl,Tn.of hb⟩
  ·refine (changePin_no d s nm text num ra refs.length rc 2 ⟨#[]⟩ ⟨#[]⟩ w (fun X hX=>pin_missing base d m O P L wd now given births ks ps ls nm s X (hD X hX) ha.kso.sz hth)).mono ?_
   rintro e w' ⟨rfl,hb⟩
   exact .inl ⟨2,_,_,.inr ⟨rfl,rfl,.inl ⟨rfl,.inl ⟨hth,rfl⟩⟩⟩,rfl,Tn.of hb⟩
 ·by_cases hth:∃x∈ps,x.name=nm
  ·refine (changeUnpin_yes base d m O P L wd now given births ks ps ls s nm text num ra refs.length rc w h (by have:=ha.np;omega) ha.psort hth).mono ?_
   rintro e w' ⟨rfl,P',hd,ht⟩
   exact .inr ⟨_,_,rfl,⟨_,.inr (.inr (.inl ⟨rfl,hth,rfl⟩)),rfl,rfl,⟨_,_,_,hd.dr⟩⟩,ht.mono hP⟩
  ·refine (changeUnpin_no d s nm text num ra refs.length rc 5 ⟨#[]⟩ ⟨#[]⟩ w (fun X hX=>unpin_no base d m O P L wd now given births ks ps ls nm X (hD X hX) (by have:=ha.np;omega) ha.psort hth)).mono ?_
   rintro e w' ⟨rfl,hb⟩
   exact .inl ⟨5,_,_,.inr ⟨rfl,rfl,.inr (.inl ⟨rfl,hth,rfl⟩)⟩,rfl,Tn.of hb⟩
 ·by_cases hth:There ks s
  ·by_cases hfull:ls.length=200∨given=1000000000
   ·refine (changeLease_no d s nm text num ra refs.length rc 4 ⟨#[]⟩ ⟨#[]⟩ w (fun X hX=>lend_full base d m O P L wd now given births ks ps ls s num X (hD X hX) ha.kso.sz hth hfull)).mono ?_
    rintro e w' ⟨rfl,hb⟩
    exact .inl ⟨4,_,_,.inr ⟨rfl,rfl,.inr (.inr (.inl ⟨rfl,.inr ⟨hth,hfull,rfl⟩⟩))⟩,rfl,Tn.of hb⟩
   ·have hl:ls.length<200:=by have:=ha.nl;omega
    have hg:given<1000000000:=by have:=ha.given1;omega
    refine (changeLease_yes base d m O P L wd now given births ks ps ls s nm text num ra refs.length rc w h ha.kso.sz hth hl ha.given0 hg ha.now0 ha.now1 ha.num0 ha.num1).mono ?_
    rintro e w' ⟨rfl,L',hd,ht⟩
    exact .inr ⟨_,_,rfl,⟨_,.inr (.inr (.inr (.inl ⟨rfl,hth,hl,hg,rfl⟩))),rfl,rfl,⟨_,_,_,hd.dr⟩⟩,ht.mono hL⟩
  ·refine (changeLease_no d s nm text num ra refs.length rc 2 ⟨#[]⟩ ⟨#[]⟩ w (fun X hX=>lend_missing base d m O P L wd now given births ks ps ls s num X (hD X hX) ha.kso.sz hth)).mono ?_
   rintro e w' ⟨rfl,hb⟩
   exact .inl ⟨2,_,_,.inr ⟨rfl,rfl,.inr (.inr (.inl ⟨rfl,.inl ⟨hth,rfl⟩⟩))⟩,rfl,Tn.of hb⟩
 ·by_cases hth:∃x∈ls,x.num=num
  ·refine (changeGive_yes base d m O P L wd now given births ks ps ls s nm text num ra refs.length rc w h ha.nl ha.lsort hth).mono ?_
   rintro e w' ⟨rfl,L',hd,ht⟩
   exact .inr ⟨_,_,rfl,⟨_,.inr (.inr (.inr (.inr (.inl ⟨rfl,hth,rfl⟩)))),rfl,rfl,⟨_,_,_,hd.dr⟩⟩,ht.mono hL⟩
  ·refine (changeGive_no d s nm text num ra refs.length rc 5 ⟨#[]⟩ ⟨#[]⟩ w (fun X hX=>give_no base d m O P L wd now given births ks ps ls num X (hD X hX) ha.nl ha.lsort hth)).mono ?_
   rintro e w' ⟨rfl,hb⟩
   exact .inl ⟨5,_,_,.inr ⟨rfl,rfl,.inr (.inr (.inr (.inl ⟨rfl,hth,rfl⟩)))⟩,rfl,Tn.of hb⟩
 ·by_cases hs:now+num<=1000000000
  ·refine (changeWait_yes base d m O P L wd now given births ks ps ls s nm text num ra refs.length rc w h ha.nl ha.now0 ha.num0 hs).mono ?_
   rintro e w' ⟨rfl,L',hd,ht⟩
   exact .inr ⟨_,_,rfl,⟨_,.inr (.inr (.inr (.inr (.inr (.inl ⟨rfl,hs,rfl⟩))))),rfl,rfl,⟨_,_,_,hd.dr⟩⟩,ht.mono hL⟩
  ·refine (changeWait_no d s nm text num ra refs.length rc 4 ⟨#[]⟩ ⟨#[]⟩ w (fun X hX=>wait_full base d m O P L wd now given births ks ps ls num X (hD X hX) ha.now0 ha.now1 ha.num0 ha.num1 (by omega))).mono ?_
   rintro e w' ⟨rfl,hb⟩
   exact .inl ⟨4,_,_,.inr ⟨rfl,rfl,.inr (.inr (.inr (.inr (.inl ⟨rfl,by omega,rfl⟩))))⟩,rfl,Tn.of hb⟩
 ·by_cases hth:There ks s
  ·by_cases huse:InUse ps ls ks s
   ·refine (changeDropV_held base d m O P L wd now given births ks ps ls s nm text num ra refs.length rc w h.dr ha.kso ha.np ha.nl hth huse).mono ?_
    rintro e w' ⟨rfl,hb⟩
    exact .inl ⟨6,_,_,.inr ⟨rfl,rfl,.inr (.inr (.inr (.inr (.inr ⟨rfl,.inr ⟨hth,huse,rfl⟩⟩))))⟩,rfl,Tn.of hb⟩
   ·refine (changeDropV_yes base d m O P L wd now given births ks ps ls s nm text num ra refs.length rc w h.dr ha.kso ha.np ha.nl hth huse).mono ?_
    rintro e w' ⟨rfl,O',hd,_,ht⟩
    exact .inr ⟨_,_,rfl,⟨_,.inr (.inr (.inr (.inr (.inr (.inr ⟨rfl,hth,huse,rfl⟩))))),rfl,rfl,⟨_,_,_,hd⟩⟩,ht⟩
  ·refine (changeDropV_missing base d m O P L wd now given births ks ps ls s nm text num ra refs.length rc w h.dr ha.kso.sz hth).mono ?_
   rintro e w' ⟨rfl,hb⟩
   exact .inl ⟨2,_,_,.inr ⟨rfl,rfl,.inr (.inr (.inr (.inr (.inr ⟨rfl,.inl ⟨hth,rfl⟩⟩))))⟩,rfl,Tn.of hb⟩
end Go.Proofs.YtpekbmegopfhfaaGreatDoor
namespace Go.Proofs.YtpekbmegopfhfaaGreatDoor
open Go.ChangeShapes Go.WideShapes Go.ChangeAt Go.RowKit
section
variable {wd now given births:Int} {ks:List Kd} {ps:List Pd} {ls:List Ld}
theorem okE_parts {kd:Int} {s nm:ByteArray} {num:Int} {text:ByteArray} {refs:List ByteArray} (h:okE kd s nm num text refs wd=true):1<=kd/\kd<=7/\EntOk kd.toNat s nm num text refs wd:=by
 unfold okE at h
 simp only [Bool.and_eq_true,decide_eq_true_eq] at h
 exact ⟨h.1.1,h.1.2,entOk_parts h.2⟩
theorem okE_refs {kd:Int} {s nm:ByteArray} {num:Int} {text:ByteArray} {refs:List ByteArray} (h:okE kd s nm num text refs wd=true):refs.length<=30:=by
 unfold okE at h
 simp only [Bool.and_eq_true,decide_eq_true_eq] at h
 have h2:=h.2
 unfold entOk at h2
 simp only [Bool.and_eq_true,decide_eq_true_eq] at h2
 have h3:=h2.2.2.2.2
 unfold thOk at h3
 split at h3
 ·exact (okThing_parts h3).refs
 ·have h4:=(of_decide_eq_true h3).2
  omega
theorem insK_perm (ks:List Kd) (x:Kd):(insK ks x).Perm (x::ks):=by
 unfold insK
 have h1:(ks.filter (fun k=>less k.sum x.sum)++ks.filter (fun k=> !(less k.sum x.sum))).Perm ks:=List.filter_append_perm _ _
 rw [List.append_assoc]
 exact (List.perm_middle (a:=x) (l₁:=ks.filter (fun k=>less k.sum x.sum)) (l₂:=ks.filter (fun k=> !(less k.sum x.sum)))).trans (h1.cons x)
theorem pinP_length (ps:List Pd) (n s:ByteArray):(pinP ps n s).length<=ps.length+1/\((∃x∈ps,x.name=n)->(pinP ps n s).length<=ps.length):=by
 have h:∀(l:List Pd),(l.filter (fun x=>less x.name n)).length+(l.filter (fun x=> !(less x.name n)&& !decide (x.name=n))).length+(l.filter (fun x=>decide (x.name=n))).length=l.length:=by
  intro l
  induction l with
  |nil=>rfl
  |cons x l ih=>
   by_cases hn:x.name=n
   ·simp [hn,less_irrefl]
    omega
   ·cases hl:less x.name n<;>simp [hl,hn]<;>omega
 have h1:=h ps
 unfold pinP
 rw [List.length_append,List.length_append]
 refine ⟨by simp;omega,fun ⟨x,hx,hxn⟩=> ?_⟩
 have h2:0<(ps.filter (fun x=>decide (x.name=n))).length:=List.length_pos_of_mem (List.mem_filter.2 ⟨hx,by simpa using hxn⟩)
 simp
 omega
structure RFits (wd:Int) (r:Rs):Prop where
 nd:(r.ks.map (·.sum)).Nodup
 sz:∀k∈r.ks,(k.sum.size:Int)=wd
 nk:r.ks.length<=600
 np:r.ps.length<=100
 nl:r.ls.length<=200
 refs:∀k∈r.ks,k.refs.length<=30
end
theorem ANo.code {wd now given births:Int} {ks:List Kd} {ps:List Pd} {ls:List Ld} {kd:Int} {s nm:ByteArray} {num:Int} {text:ByteArray} {refs:List ByteArray} {c:Int} {a b:ByteArray} (h:ANo wd now given births ks ps ls kd s nm num text refs c a b):2<=c/\c<=6:=by
 rcases h with ⟨_,⟨_,rfl,_⟩|⟨_,⟨_,_,_,_,rfl,_⟩|⟨_,_,rfl,_⟩|⟨_,_,rfl,_⟩⟩⟩|⟨_,_,⟨_,⟨_,rfl⟩|⟨_,_,_,rfl⟩⟩|⟨_,_,rfl⟩|⟨_,⟨_,rfl⟩|⟨_,_,rfl⟩⟩|⟨_,_,rfl⟩|⟨_,_,rfl⟩|⟨_,⟨_,rfl⟩|⟨_,_,rfl⟩⟩⟩<;>omega
theorem Dr.notin {w:World} {base d m:Nat} {O P L:Value} {wd now given births:Int} {ks:List Kd} {ps:List Pd} {ls:List Ld} (h:Dr w base d m O P L wd now given births ks ps ls) {R:Nat} {cur:Array Value} (hR:w.heap[R]?=some (.cells cur 30)) (hd:R≠d):R∉vB d m O P L:=by
 unfold vB
 simp only [List.mem_cons,List.mem_append,Option.mem_toList,not_or]
 refine ⟨hd,?_,?_,?_,?_⟩
 ·rintro rfl
  obtain ⟨n,f,_,hM,_⟩:=h.map
  obtain ⟨D,⟨es,clock,hes,_⟩,_⟩:=hM
  rw [hR] at hes
  cases hes
 ·intro e
  obtain ⟨c,hc⟩:=own_type h.ord e
  rw [hR] at hc
  simp at hc
 ·intro e
  obtain ⟨c,hc⟩:=own_type h.pin e
  rw [hR] at hc
  simp at hc
 ·intro e
  obtain ⟨c,hc⟩:=own_type h.lea e
  rw [hR] at hc
  simp at hc
theorem Drd.stays {base d m:Nat} {wd:Int} {r:Rs} {w w':World} {R:Nat} {cur:Array Value} (h:Drd base d m wd r w) (hR:w.heap[R]?=some (.cells cur 30)) (hb:base<=R) (hd:R≠d) (ht:Tn [R] w w'):Drd base d m wd r w':=by
 obtain ⟨O,P,L,hD⟩:=h
 exact ⟨O,P,L,hD.apart ht hb (hD.notin hR hd) (fun c fz e=>by rw [hR] at e;simp at e)⟩
end Go.Proofs.YtpekbmegopfhfaaGreatDoor
namespace Go.Proofs.YtpekbmegopfhfaaGreatDoor
open Go.ChangeShapes Go.WideShapes Go.ChangeAt Go.RowKit
structure ROk (wd now given births:Int) (ks:List Kd) (ps:List Pd) (ls:List Ld):Prop where
 kso:KsOk wd ks
 w1:1<=wd
 np:ps.length<=100
 nl:ls.length<=200
 psort:ps.Pairwise (fun a b=>less a.name b.name=true)
 lsort:ls.Pairwise (fun a b=>a.num<b.num)
 now0:0<=now
 now1:now<=1000000000
 given0:0<=given
 given1:given<=1000000000
 births0:0<=births
 births1:births<=1000000000
 txt:∀k∈ks,k.text.size<=2000
 r30:∀k∈ks,k.refs.length<=30
 lnum:∀x∈ls,x.num<=given
theorem ROk.zero {wd:Int} (h1:1<=wd) (h8:wd<=8):ROk wd 0 0 0 [] [] []:=
 ⟨⟨by simp,by simp,by simp,by intro k hk;simp at hk,by simp,h8⟩,h1,by simp,by simp,by simp,by simp,by omega,by omega,by omega,by omega,by omega,by omega,by simp,by simp,by simp⟩
section
variable {wd now given births:Int} {ks:List Kd} {ps:List Pd} {ls:List Ld} {kd:Int} {s nm:ByteArray} {num:Int} {text:ByteArray} {refs:List ByteArray}
theorem ROk.aok (h:ROk wd now given births ks ps ls) (he:okE kd s nm num text refs wd=true) (ht:text.size<=maxLen):AOk wd now given births ks ps ls kd num text refs:=by
 obtain ⟨k1,k7,e⟩:=okE_parts he
 exact ⟨h.kso,h.w1,h.np,h.nl,h.psort,h.lsort,h.now0,h.now1,h.given0,h.given1,h.births0,h.births1,k1,k7,e.n0,e.n1,fun k hk=>by have:=h.txt k hk;unfold maxLen;omega,ht,by have:=okE_refs he;omega⟩
theorem okE_text (h:okE kd s nm num text refs wd=true):text.size<=2000:=by
 unfold okE at h
 simp only [Bool.and_eq_true,decide_eq_true_eq] at h
 have h2:=h.2
 unfold entOk at h2
 simp only [Bool.and_eq_true,decide_eq_true_eq] at h2
 have h3:=h2.2.2.2.2
 unfold thOk at h3
 split at h3
 ·exact (okThing_parts h3).text
 ·have h4:=(of_decide_eq_true h3).1
  omega
theorem pinP_sorted {ps:List Pd} (n s:ByteArray) (h:ps.Pairwise (fun a b=>less a.name b.name=true)):(pinP ps n s).Pairwise (fun a b=>less a.name b.name=true):=by
 unfold pinP
 rw [List.pairwise_append,List.pairwise_append]
 have hup:∀y∈ps.filter (fun x=> !(less x.name n)&& !decide (x.name=n)),less n y.name=true:=fun y hy=>by
  have h2:=(List.mem_filter.1 hy).2
  simp only [Bool.and_eq_true,Bool.not_eq_true',decide_eq_false_iff_not] at h2
  exact less_tot h2.1 h2.2
 refine ⟨⟨h.filter _,by simp,fun x hx y hy=> ?_⟩,h.filter _,fun x hx y hy=> ?_⟩
 ·rw [List.mem_singleton] at hy
  subst hy
  exact (List.mem_filter.1 hx).2
 ·rcases List.mem_append.1 hx with hx|hx
  ·exact less_trans (List.mem_filter.1 hx).2 (hup y hy)
  ·rw [List.mem_singleton] at hx
   subst hx
   exact hup y hy
theorem insK_sorted {ks:List Kd} {x:Kd} (h:(ks.map (·.sum)).Pairwise (fun a b=>less a b=true)) (hno:¬There ks x.sum):((insK ks x).map (·.sum)).Pairwise (fun a b=>less a b=true):=by
 rw [List.pairwise_map] at h ⊢
 unfold insK
 rw [List.pairwise_append,List.pairwise_append]
 have hup:∀y∈ks.filter (fun k=> !(less k.sum x.sum)),less x.sum y.sum=true:=fun y hy=>by
  obtain ⟨h1,h2⟩:=List.mem_filter.1 hy
  simp only [Bool.not_eq_true'] at h2
  exact less_tot h2 (fun e=>hno ⟨y,h1,e⟩)
 refine ⟨⟨h.filter _,by simp,fun y hy z hz=> ?_⟩,h.filter _,fun y hy z hz=> ?_⟩
 ·rw [List.mem_singleton] at hz
  subst hz
  exact (List.mem_filter.1 hy).2
 ·rcases List.mem_append.1 hy with hy|hy
  ·exact less_trans (List.mem_filter.1 hy).2 (hup z hz)
  ·rw [List.mem_singleton] at hy
   subst hy
   exact hup z hz
theorem KsOk.drop (h:KsOk wd ks) (t:ByteArray):KsOk wd (dropK ks t):=by
 have hsub:(dropK ks t).Sublist ks:=List.filter_sublist
 exact ⟨h.nd.sublist (hsub.map _),h.sorted.sublist (hsub.map _),fun k hk=>h.sz k (hsub.subset hk),fun k hk=>h.refs k (hsub.subset hk),Nat.le_trans hsub.length_le h.len,h.w8⟩
theorem ROk.step (h:ROk wd now given births ks ps ls) (he:okE kd s nm num text refs wd=true) {r:Rs} (hy:AYes wd now given births ks ps ls kd s nm num text refs r):ROk wd r.now r.given r.births r.ks r.ps r.ls:=by
 obtain ⟨k1,k7,e⟩:=okE_parts he
 have hn0:=e.n0
 have hn1:=e.n1
 have hlease:∀x:Ld,x.num=given+1->(ls++[x]).Pairwise (fun a b=>a.num<b.num)/\∀y∈ls++[x],y.num<=given+1:=fun x hx=>by
  refine ⟨?_,fun y hy=> ?_⟩
  ·rw [List.pairwise_append]
   refine ⟨h.lsort,by simp,fun y hy z hz=> ?_⟩
   rw [List.mem_singleton] at hz
   subst hz
   have:=h.lnum y hy
   omega
  ·rcases List.mem_append.1 hy with hy|hy
   ·have:=h.lnum y hy
    omega
   ·rw [List.mem_singleton] at hy
    subst hy
    omega
 rcases hy with ⟨rfl,_,hl,hg,ks1,b1,hy,rfl⟩|⟨_,_,hroom,rfl⟩|⟨_,_,rfl⟩|⟨_,_,hl,hg,rfl⟩|⟨_,_,rfl⟩|⟨_,ht,rfl⟩|⟨_,_,_,rfl⟩
 ·have hl':(ls++[(⟨given+1,sumT text refs wd,now+num⟩:Ld)]).length<=200:=by simp;omega
  have hL:=hlease ⟨given+1,sumT text refs wd,now+num⟩ rfl
  have hgv:=h.given0
  have hth:=okThing_parts (e.thing rfl)
  rcases hy with ⟨_,_,_,_,rfl,rfl⟩|⟨hno,hlt,hb,rfl,rfl⟩
  ·exact ⟨h.kso,h.w1,h.np,hl',h.psort,hL.1,h.now0,h.now1,by show 0<=given+1;omega,by show given+1<=_;omega,h.births0,h.births1,h.txt,h.r30,hL.2⟩
  ·have hp:=insK_perm ks ⟨sumT text refs wd,births+1,text,refs⟩
   have hb0:=h.births0
   have hcase:∀k∈insK ks ⟨sumT text refs wd,births+1,text,refs⟩,k=⟨sumT text refs wd,births+1,text,refs⟩∨k∈ks:=fun k hk=>List.mem_cons.1 (hp.mem_iff.1 hk)
   have hks:KsOk wd (insK ks ⟨sumT text refs wd,births+1,text,refs⟩):=by
    have hs:=insK_sorted (x:=⟨sumT text refs wd,births+1,text,refs⟩) h.kso.sorted hno
    refine ⟨rises_nodup hs,hs,fun k hk=> ?_,fun k hk=> ?_,by rw [insK_len];omega,h.kso.w8⟩
    ·rcases hcase k hk with rfl|hk
     ·exact sumT_size _ _ _ h.w1
     ·exact h.kso.sz k hk
    ·rcases hcase k hk with rfl|hk
     ·exact ⟨by have:=hth.refs;show refs.length<=_;omega,refs_rise hth.all⟩
     ·exact h.kso.refs k hk
   refine ⟨hks,h.w1,h.np,hl',h.psort,hL.1,h.now0,h.now1,by show 0<=given+1;omega,by show given+1<=_;omega,by show 0<=births+1;omega,by show births+1<=_;omega,fun k hk=> ?_,fun k hk=> ?_,hL.2⟩
   ·rcases hcase k hk with rfl|hk
    ·exact hth.text
    ·exact h.txt k hk
   ·rcases hcase k hk with rfl|hk
    ·exact hth.refs
    ·exact h.r30 k hk
 ·have hpl:=pinP_length ps nm s
  refine ⟨h.kso,h.w1,?_,h.nl,pinP_sorted nm s h.psort,h.lsort,h.now0,h.now1,h.given0,h.given1,h.births0,h.births1,h.txt,h.r30,h.lnum⟩
  rcases hroom with hroom|hroom
  ·exact Nat.le_trans (hpl.2 hroom) h.np
  ·exact Nat.le_trans hpl.1 (by omega)
 ·exact ⟨h.kso,h.w1,Nat.le_trans (List.length_filter_le _ _) h.np,h.nl,h.psort.filter _,h.lsort,h.now0,h.now1,h.given0,h.given1,h.births0,h.births1,h.txt,h.r30,h.lnum⟩
 ·have hL:=hlease ⟨given+1,s,now+num⟩ rfl
  have hgv:=h.given0
  exact ⟨h.kso,h.w1,h.np,by simp;omega,h.psort,hL.1,h.now0,h.now1,by show 0<=given+1;omega,by show given+1<=_;omega,h.births0,h.births1,h.txt,h.r30,hL.2⟩
 ·exact ⟨h.kso,h.w1,h.np,Nat.le_trans (List.length_filter_le _ _) h.nl,h.psort,h.lsort.filter _,h.now0,h.now1,h.given0,h.given1,h.births0,h.births1,h.txt,h.r30,fun x hx=>h.lnum x (List.mem_filter.1 hx).1⟩
 ·have:=h.now0
  exact ⟨h.kso,h.w1,h.np,Nat.le_trans (List.length_filter_le _ _) h.nl,h.psort,h.lsort.filter _,by show 0<=now+num;omega,ht,h.given0,h.given1,h.births0,h.births1,h.txt,h.r30,fun x hx=>h.lnum x (List.mem_filter.1 hx).1⟩
 ·exact ⟨h.kso.drop s,h.w1,h.np,h.nl,h.psort,h.lsort,h.now0,h.now1,h.given0,h.given1,h.births0,h.births1,fun k hk=>h.txt k (List.mem_filter.1 hk).1,fun k hk=>h.r30 k (List.mem_filter.1 hk).1,h.lnum⟩
end
end Go.Proofs.YtpekbmegopfhfaaGreatDoor
