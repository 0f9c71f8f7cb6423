import Derived.Test.YthkmpihfhkmaoaaGreatDoorV13
import Derived.Laws.IdiomCopy
import Derived.Laws.CopyRow
import Derived.Laws.NewBlocks
import Derived.Laws.AppendOwn
import Derived.Lib.AppendZerosOnto
import Derived.Lib.Overlaps
import Derived.Lib.Walk
import Derived.WalkKit
namespace Go.Proofs.YthkmpihfhkmaoaaGreatDoor
open Go.ChangeShapes Go.WideShapes Go.ChangeAt Go.RowKit
set_option maxRecDepth 20000 in
set_option maxHeartbeats 4000000 in
theorem attempt_any (d:Nat) (V:List Nat) (kd:Int) (s nm tx:ByteArray) (num:Int) (ra:Option Addr) (rn rc:Nat) (Rn:Int->ByteArray->ByteArray->Prop) (Ry:ByteArray->Int->World->Prop) (w:World) (hV:∀b∈V,b<w.heap.size)
 (hst:∀sm le X X' R cur,Ry sm le X->X.heap[R]?=some (.cells cur 40)->w.heap.size<=R->Tn [R] X X'->Ry sm le X')
 (h:∀X,Below w.heap.size w X->Calls Tryz.prog 112 #[.pointer (some ⟨d,0,none⟩),.agg #[.int .i64 kd,.string s,.string nm,.int .i64 num,.string tx,.slice ra rn rc]] X fun e w'=>(∃c a b,Rn c a b/\e=.panicked [{v:=refV c a b,recovered:=false}]/\Tn V X w')∨(∃sm le,e=.returned (.agg #[.int .i64 0,.int .i64 0,.int .i64 0,.int .i64 0,.int .i64 0,.slice none 0 0,.slice none 0 0,.slice none 0 0,.string sm,.int .i64 le,.string ⟨#[]⟩,.string ⟨#[]⟩])/\Ry sm le w'/\Tn V X w')):
 Calls Tryz.prog 45 #[.pointer (some ⟨d,0,none⟩),.agg #[.int .i64 kd,.string s,.string nm,.int .i64 num,.string tx,.slice ra rn rc]] w fun e w'=>(∃c a b,Rn c a b/\e=.returned (.agg (refC c a b).toArray)/\Tn V w w')∨(∃sm le,e=.returned (.agg #[.int .i64 0,.int .i64 0,.int .i64 0,.int .i64 0,.int .i64 0,.slice none 0 0,.slice none 0 0,.slice none 0 0,.string sm,.int .i64 le,.string ⟨#[]⟩,.string ⟨#[]⟩])/\Ry sm le w'/\Tn V w w'):=by
 suffices hs:∀Q:Ending->World->Prop,(∀c a b w'',Rn c a b->Tn V w w''->Q (.returned (.agg (refC c a b).toArray)) w'')->(∀sm le w'',Ry sm le w''->Tn V w w''->Q (.returned (.agg #[.int .i64 0,.int .i64 0,.int .i64 0,.int .i64 0,.int .i64 0,.slice none 0 0,.slice none 0 0,.slice none 0 0,.string sm,.int .i64 le,.string ⟨#[]⟩,.string ⟨#[]⟩])) w'')->Calls Tryz.prog 45 #[.pointer (some ⟨d,0,none⟩),.agg #[.int .i64 kd,.string s,.string nm,.int .i64 num,.string tx,.slice ra rn rc]] w Q from
  hs _ (fun c a b w'' h1 h2=> .inl ⟨c,a,b,h1,rfl,h2⟩) (fun sm le w'' h1 h2=> .inr ⟨sm,le,rfl,h1,h2⟩)
 intro Q hQn hQy;have HQn:Hid _:=hQn;have HQy:Hid _:=hQy;clear hQn hQy;have hmf:∀(fn:Fn) (first cap:Array Value) (w:World),(Instr.makeFunc fn first cap).run Tryz.prog w=.ok (.func fn first cap) w:=fun _ _ _ _=>rfl
 obtain⟨W,hW⟩:∃W,W=(w.alloc (.cells #[.int .i64 kd,.string s,.string nm,.int .i64 num,.string tx,.slice ra rn rc] 45)).alloc (.cells #[.int .i64 0,.int .i64 0,.int .i64 0,.int .i64 0,.int .i64 0,.slice none 0 0,.slice none 0 0,.slice none 0 0,.string ⟨#[]⟩,.int .i64 0,.string ⟨#[]⟩,.string ⟨#[]⟩] 40):=⟨_,rfl⟩
 have hB:Below w.heap.size w W:=by rw[hW];exact((Below.refl _ _).alloc (Nat.le_refl _) _).alloc (by simp) _
 have hzW:W.heap.size=w.heap.size+2:=by rw[hW];simp
 have xE:CellsAt W w.heap.size [.int .i64 kd,.string s,.string nm,.int .i64 num,.string tx,.slice ra rn rc]:=by
  have h1:=CellsAt.new w [.int .i64 kd,.string s,.string nm,.int .i64 num,.string tx,.slice ra rn rc] 45;rw[hW];exact CellsAt.below h1 ((Below.refl _ _).alloc (Nat.le_refl _) _)
 have zR:CellsAt W (w.heap.size+1) z12:=by
  have h1:=CellsAt.new (w.alloc (.cells #[.int .i64 kd,.string s,.string nm,.int .i64 num,.string tx,.slice ra rn rc] 45)) z12 40;rw[World.size_alloc] at h1;rw[hW];exact h1
 have hRb:W.heap[w.heap.size+1]?=some (.cells #[.int .i64 0,.int .i64 0,.int .i64 0,.int .i64 0,.int .i64 0,.slice none 0 0,.slice none 0 0,.slice none 0 0,.string ⟨#[]⟩,.int .i64 0,.string ⟨#[]⟩,.string ⟨#[]⟩] 40):=by
  have:=heap_alloc_new (w.alloc (.cells #[.int .i64 kd,.string s,.string nm,.int .i64 num,.string tx,.slice ra rn rc] 45)) (.cells #[.int .i64 0,.int .i64 0,.int .i64 0,.int .i64 0,.int .i64 0,.slice none 0 0,.slice none 0 0,.slice none 0 0,.string ⟨#[]⟩,.int .i64 0,.string ⟨#[]⟩,.string ⟨#[]⟩] 40);rw[World.size_alloc] at this;rw[hW];exact this
 obtain⟨e0,_⟩:=xE 0 _ rfl;obtain⟨e1,_⟩:=xE 1 _ rfl;obtain⟨e2,_⟩:=xE 2 _ rfl;obtain⟨e3,_⟩:=xE 3 _ rfl;obtain⟨e4,_⟩:=xE 4 _ rfl;obtain⟨e5,_⟩:=xE 5 _ rfl;have HC:Hid _:=h W hB;have HW:Hid _:=hW
 have HZ:Hid (CellsAt W (w.heap.size+1) z12/\W.heap[w.heap.size+1]?=some (.cells #[.int .i64 0,.int .i64 0,.int .i64 0,.int .i64 0,.int .i64 0,.slice none 0 0,.slice none 0 0,.slice none 0 0,.string ⟨#[]⟩,.int .i64 0,.string ⟨#[]⟩,.string ⟨#[]⟩] 40)/\Below w.heap.size w W/\W.heap.size=w.heap.size+2):=⟨zR,hRb,hB,hzW⟩;have HV:Hid (∀b∈V,b<w.heap.size):=hV;have HSt:Hid _:=hst
 clear hW zR hzW xE h hRb hB hV hst
 go_enter_defers Tryz.func45,Tryz.ntmps45
 go_upto_region 1 with fail;rw[←HW.out];clear HW;go_wp2_with fail;refine Calls.mono HC.out ?_;intro e w1 hch;have zz:=HZ.out.2.2.2;have hnv:w.heap.size+1∉V:=fun h=>by have:=HV.out _ h;omega
 obtain⟨c,a,b,hno,rfl,ht1⟩|⟨sm,le,rfl,hy,ht1⟩:=hch
 ·have zR1:CellsAt w1 (w.heap.size+1) z12:=CellsAt.same HZ.out.1 (ht1.block _ (by omega) hnv)
  clear e0 e1 e2 e3 e4 e5 HC;refine leaves_cons (f:=111) (args:= #[.pointer (some ⟨w.heap.size+1,0,none⟩)]) (by simp) (by simp[go_sem]) ?_;refine(catch_panic (w.heap.size+1) c a b w1 zR1).mono ?_;rintro e u' w'' ⟨rfl,rfl,hc,ht⟩;have y0:=(hc 0 _ rfl).1;have y1:=(hc 1 _ rfl).1;have y2:=(hc 2 _ rfl).1;have y3:=(hc 3 _ rfl).1;have y4:=(hc 4 _ rfl).1;have y5:=(hc 5 _ rfl).1;have y6:=(hc 6 _ rfl).1
  have y7:=(hc 7 _ rfl).1;have y8:=(hc 8 _ rfl).1;have y9:=(hc 9 _ rfl).1;have y10:=(hc 10 _ rfl).1;have y11:=(hc 11 _ rfl).1;have HF:Hid (Rn c a b/\Tn V w w''):=⟨hno,Tn.fresh ((Tn.of HZ.out.2.2.1).trans ht1) ht (by omega)⟩;clear hc ht hno;simp[Leaves,settle,results,Tryz.results45,go_sem,y0,y1,y2,y3,y4,y5,y6,y7,y8,y9,y10,y11];exact HQn.out c a b _ HF.out.1 HF.out.2
 ·have zR1:CellsAt w1 (w.heap.size+1) z12:=CellsAt.same HZ.out.1 (ht1.block _ (by omega) hnv)
  have hR1:w1.heap[w.heap.size+1]?=some (.cells #[.int .i64 0,.int .i64 0,.int .i64 0,.int .i64 0,.int .i64 0,.slice none 0 0,.slice none 0 0,.slice none 0 0,.string ⟨#[]⟩,.int .i64 0,.string ⟨#[]⟩,.string ⟨#[]⟩] 40):=(ht1.block _ (by omega) hnv).trans HZ.out.2.1;have H1:Hid _:=And.intro hy (And.intro ht1 hR1)
  obtain⟨⟨y0,q0⟩,⟨y1,q1⟩,⟨y2,q2⟩,⟨y3,q3⟩,⟨y4,q4⟩,⟨y5,q5⟩,⟨y6,q6⟩,⟨y7,q7⟩,⟨y8,q8⟩,⟨y9,q9⟩,⟨y10,q10⟩,y11,q11⟩:=z12at zR1;clear hy ht1 zR1 hR1 e0 e1 e2 e3 e4 e5 HC zz hnv;go_wp2;refine leaves_cons (f:=111) (args:= #[.pointer (some ⟨w.heap.size+1,0,none⟩)]) (by simp) (by simp[go_sem]) ?_;refine(catch_idle ⟨w.heap.size+1,0,none⟩ _).mono ?_;rintro e u' w'' ⟨rfl,rfl,rfl⟩
  have HT:Hid _:=tn12 w1 (w.heap.size+1) (.int .i64 0) (.int .i64 0) (.int .i64 0) (.int .i64 0) (.int .i64 0) (.slice none 0 0) (.slice none 0 0) (.slice none 0 0) (.string sm) (.int .i64 le) (.string ⟨#[]⟩) (.string ⟨#[]⟩);have HF:Hid _:=And.intro (HSt.out sm le _ _ _ _ H1.out.1 H1.out.2.2 (by omega) HT.out) (Tn.fresh ((Tn.of HZ.out.2.2.1).trans H1.out.2.1) HT.out (by omega))
  simp[Leaves,settle,results,Tryz.results45,go_sem,y0,y1,y2,y3,y4,y5,y6,y7,y8,y9,y10,y11];exact HQy.out sm le _ HF.out.1 HF.out.2
end Go.Proofs.YthkmpihfhkmaoaaGreatDoor
namespace Go.Proofs.YthkmpihfhkmaoaaGreatDoor
open Go.ChangeShapes Go.WideShapes Go.ChangeAt Go.RowKit
set_option maxRecDepth 20000 in
set_option maxHeartbeats 4000000 in
theorem changeLease_yes (base d m:Nat) (O P L:Value) (wd now given births:Int) (ks:List Kd) (ps:List Pd) (ls:List Ld) (s nm tx:ByteArray) (num:Int) (ra:Option Addr) (rn rc:Nat) (w:World) (h:DU w base d m O P L wd now given births ks ps ls) (hsz:∀k∈ks,(k.sum.size:Int)=wd) (hth:There ks s) (hl:ls.length<200) (hg0:0<=given) (hg1:given<1000000000) (hn0:0<=now) (hn1:now<=1000000000) (ht0:0<=num) (ht1:num<=1000000000):
 Calls Tryz.prog 112 #[.pointer (some ⟨d,0,none⟩),.agg #[.int .i64 4,.string s,.string nm,.int .i64 num,.string tx,.slice ra rn rc]] w fun e w'=>e=.returned (.agg #[.int .i64 0,.int .i64 0,.int .i64 0,.int .i64 0,.int .i64 0,.slice none 0 0,.slice none 0 0,.slice none 0 0,.string ⟨#[]⟩,.int .i64 (given+1),.string ⟨#[]⟩,.string ⟨#[]⟩])/\∃L',DU w' base d m O P L' wd now (given+1) births ks ps (ls++[⟨given+1,s,now+num⟩])/\Tn (d::L.ownBlock.toList) w w':=by
 obtain⟨W,hW⟩:∃W,W=((w.alloc (.cells #[.int .i64 4,.string s,.string nm,.int .i64 num,.string tx,.slice ra rn rc] 45)).alloc (.cells #[.int .i64 0,.int .i64 0,.int .i64 0,.int .i64 0,.int .i64 0,.slice none 0 0,.slice none 0 0,.slice none 0 0,.string ⟨#[]⟩,.int .i64 0,.string ⟨#[]⟩,.string ⟨#[]⟩] 40)).alloc (.cells #[.int .i64 0,.int .i64 0,.int .i64 0,.int .i64 0,.int .i64 0,.slice none 0 0,.slice none 0 0,.slice none 0 0,.string ⟨#[]⟩,.int .i64 0,.string ⟨#[]⟩,.string ⟨#[]⟩] 40):=⟨_,rfl⟩
 have hB:Below w.heap.size w W:=by rw[hW];exact(((Below.refl _ _).alloc (Nat.le_refl _) _).alloc (by simp) _).alloc (by simp;omega) _
 have hzW:W.heap.size=w.heap.size+3:=by rw[hW];simp
 have xE:CellsAt W w.heap.size [.int .i64 4,.string s,.string nm,.int .i64 num,.string tx,.slice ra rn rc]:=by
  have h1:=CellsAt.new w [.int .i64 4,.string s,.string nm,.int .i64 num,.string tx,.slice ra rn rc] 45;rw[hW];exact CellsAt.below (CellsAt.below h1 ((Below.refl _ _).alloc (Nat.le_refl _) _)) ((Below.refl _ _).alloc (Nat.le_refl _) _)
 have zR:CellsAt W (w.heap.size+1) z12:=by
  have h1:=CellsAt.new (w.alloc (.cells #[.int .i64 4,.string s,.string nm,.int .i64 num,.string tx,.slice ra rn rc] 45)) z12 40;rw[World.size_alloc] at h1;rw[hW];exact CellsAt.below (v:=.int .i64 0) h1 ((Below.refl _ _).alloc (Nat.le_refl _) _)
 have zO:CellsAt W (w.heap.size+2) z12:=by
  have h1:=CellsAt.new ((w.alloc (.cells #[.int .i64 4,.string s,.string nm,.int .i64 num,.string tx,.slice ra rn rc] 45)).alloc (.cells #[.int .i64 0,.int .i64 0,.int .i64 0,.int .i64 0,.int .i64 0,.slice none 0 0,.slice none 0 0,.slice none 0 0,.string ⟨#[]⟩,.int .i64 0,.string ⟨#[]⟩,.string ⟨#[]⟩] 40)) z12 40;rw[World.size_alloc,World.size_alloc] at h1;rw[hW];exact h1
 have hRb:W.heap[w.heap.size+1]?=some (.cells #[.int .i64 0,.int .i64 0,.int .i64 0,.int .i64 0,.int .i64 0,.slice none 0 0,.slice none 0 0,.slice none 0 0,.string ⟨#[]⟩,.int .i64 0,.string ⟨#[]⟩,.string ⟨#[]⟩] 40):=by
  rw[hW,Below.heap_alloc _ _ _ (by simp)];have:=heap_alloc_new (w.alloc (.cells #[.int .i64 4,.string s,.string nm,.int .i64 num,.string tx,.slice ra rn rc] 45)) (.cells #[.int .i64 0,.int .i64 0,.int .i64 0,.int .i64 0,.int .i64 0,.slice none 0 0,.slice none 0 0,.slice none 0 0,.string ⟨#[]⟩,.int .i64 0,.string ⟨#[]⟩,.string ⟨#[]⟩] 40);rw[World.size_alloc] at this;exact this
 have hOb:W.heap[w.heap.size+2]?=some (.cells #[.int .i64 0,.int .i64 0,.int .i64 0,.int .i64 0,.int .i64 0,.slice none 0 0,.slice none 0 0,.slice none 0 0,.string ⟨#[]⟩,.int .i64 0,.string ⟨#[]⟩,.string ⟨#[]⟩] 40):=by
  have:=heap_alloc_new ((w.alloc (.cells #[.int .i64 4,.string s,.string nm,.int .i64 num,.string tx,.slice ra rn rc] 45)).alloc (.cells #[.int .i64 0,.int .i64 0,.int .i64 0,.int .i64 0,.int .i64 0,.slice none 0 0,.slice none 0 0,.slice none 0 0,.string ⟨#[]⟩,.int .i64 0,.string ⟨#[]⟩,.string ⟨#[]⟩] 40)) (.cells #[.int .i64 0,.int .i64 0,.int .i64 0,.int .i64 0,.int .i64 0,.slice none 0 0,.slice none 0 0,.slice none 0 0,.string ⟨#[]⟩,.int .i64 0,.string ⟨#[]⟩,.string ⟨#[]⟩] 40)
  rw[World.size_alloc,World.size_alloc] at this;rw[hW];exact this
 have hD:=h.below hB;have hdl:=h.dr.box.lt;have hlt:∀b∈d::L.ownBlock.toList,b<w.heap.size:=fun b hb=>h.dr.lts b (by unfold vB;simp at hb ⊢;rcases hb with rfl|hb<;>simp[*]);have HC:Hid _:=lend_yes base d m O P L wd now given births ks ps ls s num W hD hsz hth hl hg0 hg1 hn0 hn1 ht0 ht1;have HW:Hid _:=hW
 have HZ:Hid (CellsAt W (w.heap.size+1) z12/\CellsAt W (w.heap.size+2) z12/\W.heap[w.heap.size+1]?=some (.cells #[.int .i64 0,.int .i64 0,.int .i64 0,.int .i64 0,.int .i64 0,.slice none 0 0,.slice none 0 0,.slice none 0 0,.string ⟨#[]⟩,.int .i64 0,.string ⟨#[]⟩,.string ⟨#[]⟩] 40)/\W.heap[w.heap.size+2]?=some (.cells #[.int .i64 0,.int .i64 0,.int .i64 0,.int .i64 0,.int .i64 0,.slice none 0 0,.slice none 0 0,.slice none 0 0,.string ⟨#[]⟩,.int .i64 0,.string ⟨#[]⟩,.string ⟨#[]⟩] 40)/\Below w.heap.size w W/\W.heap.size=w.heap.size+3/\base<=w.heap.size):=⟨zR,zO,hRb,hOb,hB,hzW,h.lo⟩
 have HLt:Hid (∀b∈d::L.ownBlock.toList,b<w.heap.size):=hlt;obtain⟨e0,_⟩:=xE 0 _ rfl;obtain⟨e1,_⟩:=xE 1 _ rfl;obtain⟨e2,_⟩:=xE 2 _ rfl;obtain⟨e3,_⟩:=xE 3 _ rfl;clear hW h hD zR zO hRb hOb hB hzW xE hlt;go_enter Tryz.func112,Tryz.ntmps112;go_upto_region 2 with fail;rw[←HW.out];clear HW;go_wp2_with fail;refine Calls.mono HC.out ?_;rintro e w1 ⟨rfl,V,hd1,ht1⟩;have zz:=HZ.out.2.2.2.2.2.1
 have zR1:CellsAt w1 (w.heap.size+1) z12:=CellsAt.same HZ.out.1 (ht1.block _ (by omega) (fun h=>by have:=HLt.out _ h;omega));have zO1:CellsAt w1 (w.heap.size+2) z12:=CellsAt.same HZ.out.2.1 (ht1.block _ (by omega) (fun h=>by have:=HLt.out _ h;omega))
 have hR1:w1.heap[w.heap.size+1]?=some (.cells #[.int .i64 0,.int .i64 0,.int .i64 0,.int .i64 0,.int .i64 0,.slice none 0 0,.slice none 0 0,.slice none 0 0,.string ⟨#[]⟩,.int .i64 0,.string ⟨#[]⟩,.string ⟨#[]⟩] 40):=(ht1.block _ (by omega) (fun h=>by have:=HLt.out _ h;omega)).trans HZ.out.2.2.1
 have hO1:w1.heap[w.heap.size+2]?=some (.cells #[.int .i64 0,.int .i64 0,.int .i64 0,.int .i64 0,.int .i64 0,.slice none 0 0,.slice none 0 0,.slice none 0 0,.string ⟨#[]⟩,.int .i64 0,.string ⟨#[]⟩,.string ⟨#[]⟩] 40):=(ht1.block _ (by omega) (fun h=>by have:=HLt.out _ h;omega)).trans HZ.out.2.2.2.1
 have HD1:Hid _:=And.intro hd1 (And.intro ht1 (And.intro (hd1.notin hR1 (by omega)) (hd1.notin hO1 (by omega))));obtain⟨⟨y0,q0⟩,⟨y1,q1⟩,⟨y2,q2⟩,⟨y3,q3⟩,⟨y4,q4⟩,⟨y5,q5⟩,⟨y6,q6⟩,⟨y7,q7⟩,⟨y8,q8⟩,⟨y9,q9⟩,⟨y10,q10⟩,y11,q11⟩:=z12at zR1;obtain⟨⟨v0,p0⟩,⟨v1,p1⟩,⟨v2,p2⟩,⟨v3,p3⟩,⟨v4,p4⟩,⟨v5,p5⟩,⟨v6,p6⟩,⟨v7,p7⟩,⟨v8,p8⟩,⟨v9,p9⟩,⟨v10,p10⟩,v11,p11⟩:=z12at zO1;clear hd1 ht1 zR1 zO1 hR1 hO1 e0 e1 e2 e3 HC zz
 go_wp2;refine bodyPost_ret (v:=.agg #[.int .i64 0,.int .i64 0,.int .i64 0,.int .i64 0,.int .i64 0,.slice none 0 0,.slice none 0 0,.slice none 0 0,.string ⟨#[]⟩,.int .i64 (given+1),.string ⟨#[]⟩,.string ⟨#[]⟩]) (by simp[results,Tryz.results112,go_sem,y0,y1,y2,y3,y4,y5,y6,y7,y8,y9,y10,y11]) rfl ?_
 have T9:=(Tn.set (V:=[w.heap.size+1,w.heap.size+2]) w1 (w.heap.size+2) 9 (.int .i64 (given+1)) (by simp)).trans (Tn.mono (tn12 (w1.setCell ⟨w.heap.size+2,9,none⟩ (.int .i64 (given+1))) (w.heap.size+1) (.int .i64 0) (.int .i64 0) (.int .i64 0) (.int .i64 0) (.int .i64 0) (.slice none 0 0) (.slice none 0 0) (.slice none 0 0) (.string ⟨#[]⟩) (.int .i64 (given+1)) (.string ⟨#[]⟩) (.string ⟨#[]⟩)) (by simp))
 refine⟨rfl,V,HD1.out.1.turn T9 (by intro b hb;simp at hb;have:=HZ.out.2.2.2.2.2.2;rcases hb with rfl|rfl;exact⟨by omega,HD1.out.2.2.1⟩;exact⟨by omega,HD1.out.2.2.2⟩),?_⟩;have t0:=(Tn.of (V:=d::L.ownBlock.toList) HZ.out.2.2.2.2.1).trans HD1.out.2.1
 exact⟨T9.os.trans t0.os,T9.tape.trans t0.tape,T9.output.trans t0.output,Nat.le_trans t0.size T9.size,fun b hb hv=>(T9.block b (Nat.lt_of_lt_of_le hb t0.size) (by simp;omega)).trans (t0.block b hb hv)⟩
end Go.Proofs.YthkmpihfhkmaoaaGreatDoor
namespace Go.Proofs.YthkmpihfhkmaoaaGreatDoor
open Go.ChangeShapes Go.WideShapes Go.ChangeAt Go.RowKit
def pinP (ps:List Pd) (n s:ByteArray):List Pd:=ps.filter (fun x=>less x.name n)++[⟨n,s⟩]++ps.filter (fun x=> !(less x.name n)&& !decide (x.name=n))
theorem PlaceP.split {ps:List Pd} {n:ByteArray} {i:Nat} (h:PlaceP ps n i):ps.filter (fun x=>less x.name n)=ps.take i:=by
 have e:ps=ps.take i++ps.drop i:=(List.take_append_drop i ps).symm
 conv=>lhs;rw[e]
 rw[List.filter_append,List.filter_eq_self.2 (fun x hx=> ?_),List.filter_eq_nil_iff.2 (fun x hx=> ?_),List.append_nil]
 ·obtain⟨j,hj⟩:=List.getElem?_of_mem hx
  rw[List.getElem?_drop] at hj;rw[h.hi (i+j) x (by omega) hj];simp
 ·obtain⟨j,hj⟩:=List.getElem?_of_mem hx
  have hjl:=(List.getElem?_eq_some_iff.1 hj).1;rw[List.length_take] at hjl;rw[List.getElem?_take_of_lt (by omega)] at hj;exact h.lo j x (by omega) hj
theorem PlaceP.above {ps:List Pd} {n:ByteArray} {i:Nat} (h:PlaceP ps n i):ps.filter (fun x=> !(less x.name n)&& !decide (x.name=n))=(ps.drop i).filter (fun x=> !decide (x.name=n)):=by
 have e:ps=ps.take i++ps.drop i:=(List.take_append_drop i ps).symm
 conv=>lhs;rw[e]
 rw[List.filter_append,List.filter_eq_nil_iff.2 (fun x hx=> ?_),List.nil_append]
 ·refine List.filter_congr (fun x hx=> ?_)
  obtain⟨j,hj⟩:=List.getElem?_of_mem hx;rw[List.getElem?_drop] at hj;rw[h.hi (i+j) x (by omega) hj];simp
 ·obtain⟨j,hj⟩:=List.getElem?_of_mem hx
  have hjl:=(List.getElem?_eq_some_iff.1 hj).1;rw[List.length_take] at hjl;rw[List.getElem?_take_of_lt (by omega)] at hj;rw[h.lo j x (by omega) hj];simp
theorem pinP_insert {ps:List Pd} {n s:ByteArray} {i:Nat} (h:PlaceP ps n i) (hth:¬∃x∈ps,x.name=n):pinP ps n s=ps.take i++[⟨n,s⟩]++ps.drop i:=by
 unfold pinP;rw[h.split,h.above,List.filter_eq_self.2 (fun x hx=> ?_)];have hn:x.name≠n:=fun e=>hth ⟨x,List.mem_of_mem_drop hx,e⟩;simpa using hn
theorem pinP_set {ps:List Pd} {n s:ByteArray} {i:Nat} {x:Pd} (h:PlaceP ps n i) (hx:ps[i]?=some x) (hn:x.name=n) (hsort:ps.Pairwise (fun a b=>less a.name b.name=true)):pinP ps n s=ps.set i ⟨n,s⟩:=by
 obtain⟨hil,e⟩:=List.getElem?_eq_some_iff.1 hx;unfold pinP;rw[h.split,h.above,List.drop_eq_getElem_cons hil,List.filter_cons,e,hn];simp only[decide_true,Bool.not_true,Bool.false_eq_true,if_false];rw[List.filter_eq_self.2 (fun y hy=> ?_),List.set_eq_take_append_cons_drop,if_pos hil,List.append_assoc]
 ·rfl
 ·obtain⟨j,hj⟩:=List.getElem?_of_mem hy
  rw[List.getElem?_drop] at hj;obtain⟨hjl,e2⟩:=List.getElem?_eq_some_iff.1 hj;have:=List.pairwise_iff_getElem.1 hsort i (i+1+j) hil hjl (by omega);rw[e,e2,hn] at this;have hne:y.name≠n:=fun e3=>by rw[e3,less_irrefl] at this;cases this
  simpa using hne
end Go.Proofs.YthkmpihfhkmaoaaGreatDoor
namespace Go.Proofs.YthkmpihfhkmaoaaGreatDoor
open Go.ChangeShapes Go.WideShapes Go.ChangeAt Go.RowKit
theorem own_setSum {w:World} {base g cap n:Nat} {ps:List Pd} (h:w.ownsRow base 130 2 (.slice (some ⟨g,0,none⟩) n cap) n (rowC pC ps)) {i:Nat} {x:Pd} (hx:ps[i]?=some x) (s:ByteArray):(w.setCell ⟨g,i *2+1,none⟩ (.string s)).ownsRow base 130 2 (.slice (some ⟨g,0,none⟩) n cap) n (rowC pC (ps.set i ⟨x.name,s⟩)):=by
 have hi:=(List.getElem?_eq_some_iff.1 hx).1;have h1:=(h.stored (i *2+1) (.string s)).1;have h0:(rowC pC ps)[i *2]?=some (.string x.name):=by
  have:=row_get pC_len hx (show 0<2 by decide);simpa [pC] using this
 have e1:=row_setP hi (⟨x.name,s⟩:Pd);have e0:(rowC pC ps).set (i *2) (.string x.name)=rowC pC ps:=by
  obtain⟨hl,e⟩:=List.getElem?_eq_some_iff.1 h0;rw[←e];exact List.set_getElem_self hl
 rw[e0] at e1;rw[e1] at h1;exact h1
set_option maxRecDepth 20000 in
set_option maxHeartbeats 4000000 in
theorem pin_old (base d m:Nat) (O P L:Value) (wd now given births:Int) (ks:List Kd) (ps:List Pd) (ls:List Ld) (n s:ByteArray) (w:World) (h:DU w base d m O P L wd now given births ks ps ls) (hsz:∀k∈ks,(k.sum.size:Int)=wd) (hths:There ks s) (hl:ps.length<=200) (hsort:ps.Pairwise (fun a b=>less a.name b.name=true)) (hth:∃x∈ps,x.name=n):
 Calls Tryz.prog 145 #[.pointer (some ⟨d,0,none⟩),.string n,.string s] w fun e w'=>e=.returned (.tuple #[])/\∃P',DU w' base d m O P' L wd now given births ks (pinP ps n s) ls/\Tn (d::P.ownBlock.toList) w w':=by
 have hpos:0<ps.length:=by obtain⟨x,hx,_⟩:=hth;exact List.length_pos_of_mem hx
 obtain⟨g,cap,hLe⟩:=own_some' h.dr.pin hpos;subst hLe;have HN:Hid _:=need_yes base d m O (.slice (some ⟨g,0,none⟩) ps.length cap) L wd now given births ks ps ls s w h.dr hsz hths;have HD:Hid (DU w base d m O (.slice (some ⟨g,0,none⟩) ps.length cap) L wd now given births ks ps ls):=h;have HSo:Hid (ps.Pairwise (fun a b=>less a.name b.name=true)):=hsort;have HTh:Hid (∃x∈ps,x.name=n):=hth
 clear h hsort hth hsz hths;go_enter Tryz.func145,Tryz.ntmps145;go_wp2_with fail;refine Calls.mono HN.out ?_;rintro e w1 ⟨rfl,hb1⟩;have hD1:=HD.out.below hb1;have HS:Hid _:=pinPlace_any base d m O L g cap wd now given births ks ps ls n w1 hD1 hl HSo.out;clear HN;go_wp2_with fail;refine Calls.mono HS.out ?_;rintro e w2 ⟨i,rfl,hp1,hb2⟩;obtain⟨x,hxi,hxn⟩:=hp1.at HTh.out HSo.out
 have hdec:decide (∃x,ps[i]?=some x/\x.name=n)=true:=by simpa using ⟨x,hxi,hxn⟩
 have hil:i<ps.length:=(List.getElem?_eq_some_iff.1 hxi).1;have HE:Hid (pinP ps n s=ps.set i ⟨n,s⟩):=pinP_set hp1 hxi hxn HSo.out;have hD2:=hD1.below hb2;obtain⟨c6,_⟩:=hD2.dr.box 6 _ rfl;have hc1:w2.cell? ⟨g,i *2+1,none⟩=some (.string x.sum):=by
  have:=(hD2.dr.pin.cellAt (i *2+1) (by omega)).trans (row_get pC_len hxi (show 1<2 by decide));simpa [pC] using this
 have hf1:w2.frozen? ⟨g,i *2+1,none⟩=false:=hD2.dr.pin.frozenAt _;have hne:g≠d:=((ap_parts hD2.dr.ap).2.2.1 g rfl).1;have hset:=own_setSum hD2.dr.pin hxi s;rw[hxn] at hset
 have hK:∃P',DU (w2.setCell ⟨g,i *2+1,none⟩ (.string s)) base d m O P' L wd now given births ks (pinP ps n s) ls/\Tn (d::(Value.slice (some ⟨g,0,none⟩) ps.length cap).ownBlock.toList) w (w2.setCell ⟨g,i *2+1,none⟩ (.string s)):=by
  have t1:Tn (d::(Value.slice (some ⟨g,0,none⟩) ps.length cap).ownBlock.toList) w2 (w2.setCell ⟨g,i *2+1,none⟩ (.string s)):=(tn1 w2 g _ _).mono (by intro b hb;simp[Value.ownBlock] at hb ⊢;exact .inr hb)
  have hbx:CellsAt (w2.setCell ⟨g,i *2+1,none⟩ (.string s)) d [.int .i64 wd,.map (some m),.int .i64 now,.int .i64 given,.int .i64 births,O,.slice (some ⟨g,0,none⟩) ps.length cap,L]:=CellsAt.same hD2.dr.box (Below.heap_setCell _ _ _ _ (fun e=>hne e.symm));refine⟨.slice (some ⟨g,0,none⟩) ps.length cap,hD2.newP t1 hbx ?_ (.inl rfl),(Tn.of (hb1.trans (hb2.mono hb1.size))).trans t1⟩
  rw[HE.out,List.length_set];exact hset
 have HK:Hid _:=hK;have hil':(i:Int)<ps.length:=by omega
 rw[hdec];clear hdec hK hset hxi hxn hp1 hD1 hD2 hb1 hb2 HD HS HTh HSo;go_wp2;refine bodyPost_ret (results_none rfl _ _ _) rfl ?_;exact⟨rfl,HK.out⟩
set_option maxHeartbeats 1000000 in
theorem pin_missing (base d m:Nat) (O P L:Value) (wd now given births:Int) (ks:List Kd) (ps:List Pd) (ls:List Ld) (n s:ByteArray) (w:World) (h:DU w base d m O P L wd now given births ks ps ls) (hsz:∀k∈ks,(k.sum.size:Int)=wd) (hths:¬There ks s):
 Calls Tryz.prog 145 #[.pointer (some ⟨d,0,none⟩),.string n,.string s] w fun e w'=>e=.panicked [{v:=refV 2 ⟨#[]⟩ ⟨#[]⟩,recovered:=false}]/\Below w.heap.size w w':=by
 have HN:Hid _:=need_no base d m O P L wd now given births ks ps ls s w h.dr hsz hths;clear h hsz hths;go_enter Tryz.func145,Tryz.ntmps145;go_wp2_with fail;refine Calls.mono HN.out ?_;rintro e w1 ⟨rfl,hb1⟩;go_wp2;exact⟨rfl,rfl,hb1⟩
set_option maxRecDepth 20000 in
set_option maxHeartbeats 4000000 in
theorem pin_full (base d m:Nat) (O P L:Value) (wd now given births:Int) (ks:List Kd) (ps:List Pd) (ls:List Ld) (n s:ByteArray) (w:World) (h:DU w base d m O P L wd now given births ks ps ls) (hsz:∀k∈ks,(k.sum.size:Int)=wd) (hths:There ks s) (hl:ps.length=100) (hsort:ps.Pairwise (fun a b=>less a.name b.name=true)) (hth:¬∃x∈ps,x.name=n):
 Calls Tryz.prog 145 #[.pointer (some ⟨d,0,none⟩),.string n,.string s] w fun e w'=>e=.panicked [{v:=refV 4 ⟨#[]⟩ ⟨#[]⟩,recovered:=false}]/\Below w.heap.size w w':=by
 obtain⟨pa,pcp,hLe⟩:=own_val h.dr.pin;subst hLe;have HN:Hid _:=need_yes base d m O (.slice pa ps.length pcp) L wd now given births ks ps ls s w h.dr hsz hths;have HD:Hid (DU w base d m O (.slice pa ps.length pcp) L wd now given births ks ps ls):=h;have HSo:Hid (ps.Pairwise (fun a b=>less a.name b.name=true)):=hsort;have HTh:Hid (¬∃x∈ps,x.name=n):=hth
 have hll:((ps.length:Int)==100)=true:=by simp;omega
 have HLe:Hid (ps.length=100):=hl;clear h hsort hth hsz hths hl;go_enter Tryz.func145,Tryz.ntmps145;go_wp2_with fail;refine Calls.mono HN.out ?_;rintro e w1 ⟨rfl,hb1⟩;have hD1:=HD.out.below hb1;have HS:Hid _:=pinPlaceV base d m O (.slice pa ps.length pcp) L wd now given births ks ps ls n w1 hD1 (by have:=HLe.out;omega) HSo.out;clear HN;go_wp2_with fail;refine Calls.mono HS.out ?_
 rintro e w2 ⟨i,rfl,_,hb2⟩;have hdec:decide (∃x,ps[i]?=some x/\x.name=n)=false:=by
  rw[decide_eq_false_iff_not];rintro⟨x,hx,hn⟩;exact HTh.out ⟨x,List.mem_of_getElem? hx,hn⟩
 have hD2:=hD1.below hb2;obtain⟨c6,_⟩:=hD2.dr.box 6 _ rfl;have HB:Hid (Below w.heap.size w w2):=hb1.trans (hb2.mono hb1.size);rw[hdec];clear hdec hD1 hD2 hb1 hb2 HD HS HTh HSo;go_wp2;exact⟨rfl,rfl,HB.out⟩
end Go.Proofs.YthkmpihfhkmaoaaGreatDoor
namespace Go.Proofs.YthkmpihfhkmaoaaGreatDoor
theorem run_copy_wide {P:Program} (w:World) (dT sT ty elem:TypeId) (i:TypeInfo) (k b o dLen dCap:Nat) (a:Addr) (sLen sCap:Nat) (cs:List Value)
 (hu:P.underlying dT=some (.slice elem)) (hi:P.info? elem=some i) (hk:i.size=k) (hn:cs.length=Nat.min sLen dLen *k)
 (hsrc:∀j v,cs[j]?=some v->w.cell? (a.add j)=some v) (hc:∀j,j<cs.length->(w.cell? ⟨b,o+j,none⟩).isSome=true) (hf:∀j,j<cs.length->w.frozen? ⟨b,o+j,none⟩=false) (h1:∀v∈cs,v.oneCell'=true):
 (Builtin.copy_ #[dT,sT] ty #[.slice (some ⟨b,o,none⟩) dLen dCap,.slice (some a) sLen sCap]).run P w=.ok (goInt (Nat.min sLen dLen)) (w.setCells b o cs):=by
 have hl:=run_loadCells_list (P:=P) w a cs hsrc;have hst:=run_storeCells_cells (P:=P) b o cs 0 w (by simpa using hc) (by simpa using hf) h1;rw[hn] at hl;subst hk;simp[Builtin.copy_,run_underlying hu,Builtin.lenOf,Builtin.firstCells,sizeOf,typeInfo,hi,hl,hst]
theorem heap_setCells (g:Nat) (t:TypeId) (fr:Nat×Nat):∀(vs:List Value) (o:Nat) (w:World) (cur:Array Value),w.heap[g]?=some (.cells cur t fr)->o+vs.length<=cur.size->
 (w.setCells g o vs).heap[g]?=some (.cells (cur.toList.take o++vs++cur.toList.drop (o+vs.length)).toArray t fr)
 |[],o,w,cur,hg,_=>by simpa [World.setCells] using hg
 |v::r,o,w,cur,hg,hl=>by
  simp only[List.length_cons] at hl;rw[World.setCells];have h1:(w.setCell ⟨g,o,none⟩ v).heap[g]?=some (.cells (cur.setIfInBounds o v) t fr):=by
   rw[setCell_eq_setRow w g o cur t fr v hg];exact setRow_heap w g cur _ t _ hg
  rw[heap_setCells g t fr r (o+1) _ _ h1 (by simp;omega)];have e:=list_seg_step cur.toList o v r (by simp;omega);simp only[Array.toList_setIfInBounds,List.length_cons];rw[e]
theorem size_setCells (g:Nat):∀(vs:List Value) (o:Nat) (w:World),(w.setCells g o vs).heap.size=w.heap.size
 |[],_,_=>rfl
 |v::r,o,w=>by rw[World.setCells,size_setCells g r];simp[World.setCell]
theorem own_shift {w:World} {base g cap n k i:Nat} {e:TypeId} {xs vs:List Value} (h:w.ownsRow base e k (.slice (some ⟨g,0,none⟩) n cap) n xs) (hi:i<=n) (hv:vs.length=k) (hr:n+1<=cap):
 ((w.setCells g ((i+1) *k) (xs.drop (i *k))).setCells g (i *k) vs).ownsRow base e k (.slice (some ⟨g,0,none⟩) (n+1) cap) (n+1) (xs.take (i *k)++vs++xs.drop (i *k)):=by
 obtain⟨hx,hq⟩:=h;rcases hq with⟨e,_⟩|⟨g',cap',cur,e,hb,hg,h1,h2,h3,h4⟩
 ·cases e
 ·cases e
  have m1:i *k<=n *k:=Nat.mul_le_mul_right k hi;have m2:(n+1) *k<=cap *k:=Nat.mul_le_mul_right k hr;rw[Nat.add_mul] at m2 ⊢;have hlen:(xs.take (i *k)++vs++xs.drop (i *k)).length=n *k+k:=by rw[List.length_append,List.length_append,List.length_take,List.length_drop,hx,hv];omega
  have hnk:(n+1) *k=n *k+k:=by rw[Nat.add_mul];omega
  have hdl:(xs.drop (i *k)).length=n *k -i *k:=by rw[List.length_drop,hx]
  have e1:=heap_setCells g e (0,0) (xs.drop (i *k)) (i *k+1 *k) w cur hg (by rw[hdl,h3];omega);have e2:=heap_setCells g e (0,0) vs (i *k) _ _ e1 (by simp[hdl,h3,hv];omega);refine⟨by rw[hlen,hnk],.inr ⟨g,cap,_,rfl,hb,e2,hr,h2,?_,?_⟩⟩
  ·simp[hdl,h3,hv];omega
  ·have t1:(cur.toList.take (i *k+1 *k)++xs.drop (i *k)++cur.toList.drop (i *k+1 *k+(xs.drop (i *k)).length)).take (i *k)=xs.take (i *k):=by
    rw[List.append_assoc,List.take_append_of_le_length (by simp[h3];omega),List.take_take,Nat.min_eq_left (by omega),←h4,List.take_take,Nat.min_eq_left (by omega)]
   have t2:(cur.toList.take (i *k+1 *k)++xs.drop (i *k)++cur.toList.drop (i *k+1 *k+(xs.drop (i *k)).length)).drop (i *k+vs.length)=xs.drop (i *k)++cur.toList.drop (i *k+1 *k+(xs.drop (i *k)).length):=by
    rw[List.append_assoc,List.drop_append_of_le_length (by simp[h3,hv];omega),List.drop_eq_nil_of_le (by simp[h3,hv];omega),List.nil_append]
   rw[List.toList_toArray,List.toList_toArray,t1,t2,←List.append_assoc,List.take_append_of_le_length (by rw[hlen,hnk];exact Nat.le_refl _),List.take_of_length_le (by rw[hlen,hnk];exact Nat.le_refl _)]
theorem own_grow {w:World} {base g n k i G:Nat} {e:TypeId} {xs vs zs:List Value} (hx:xs.length=n *k) (hi:i<=n) (hv:vs.length=k) (hb:base<=g) (hg:w.heap[g]?=some (.cells (xs.take (i *k)++zs).toArray e (0,0))) (hz:i *k+zs.length=G *k) (hG:n+1<=G) (hG2:G<=maxLen):
 ((w.setCells g (i *k) vs).setCells g ((i+1) *k) (xs.drop (i *k))).ownsRow base e k (.slice (some ⟨g,0,none⟩) (n+1) G) (n+1) (xs.take (i *k)++vs++xs.drop (i *k)):=by
 have m1:i *k<=n *k:=Nat.mul_le_mul_right k hi;have m2:(n+1) *k<=G *k:=Nat.mul_le_mul_right k hG;rw[Nat.add_mul] at m2 ⊢;have hlen:(xs.take (i *k)++vs++xs.drop (i *k)).length=n *k+k:=by rw[List.length_append,List.length_append,List.length_take,List.length_drop,hx,hv];omega
 have hnk:(n+1) *k=n *k+k:=by rw[Nat.add_mul];omega
 have htl:(xs.take (i *k)).length=i *k:=by rw[List.length_take,hx];omega
 have hdl:(xs.drop (i *k)).length=n *k -i *k:=by rw[List.length_drop,hx]
 have e1:=heap_setCells g e (0,0) vs (i *k) w _ hg (by simp[htl,hv];omega);have e2:=heap_setCells g e (0,0) (xs.drop (i *k)) (i *k+1 *k) _ _ e1 (by simp[hdl,hv,htl];omega);refine⟨by rw[hlen,hnk],.inr ⟨g,G,_,rfl,hb,e2,hG,hG2,?_,?_⟩⟩
 ·simp[hdl,hv,htl];omega
 ·have t1:(xs.take (i *k)++zs).take (i *k)=xs.take (i *k):=by rw[List.take_append_of_le_length (by omega),List.take_of_length_le (by omega)]
  have t2:((xs.take (i *k)++zs).take (i *k)++vs++(xs.take (i *k)++zs).drop (i *k+vs.length)).take (i *k+1 *k)=xs.take (i *k)++vs:=by
   rw[t1,List.take_append_of_le_length (by simp[hv,htl]),List.take_of_length_le (by simp[hv,htl])]
  rw[t2,List.take_append_of_le_length (by rw[hlen,hnk];exact Nat.le_refl _),List.take_of_length_le (by rw[hlen,hnk];exact Nat.le_refl _)]
theorem some_setC (b:Nat) (vs:List Value) (o:Nat) (w:World) (h:∀j,j<vs.length->(w.cell? ⟨b,o+j,none⟩).isSome=true) (k:Nat) (hk:(w.cell? ⟨b,k,none⟩).isSome=true):((w.setCells b o vs).cell? ⟨b,k,none⟩).isSome=true:=by
 by_cases hin:o<=k/\k<o+vs.length
 ·obtain⟨j,rfl⟩:∃j,k=o+j:=⟨k -o,by omega⟩
  rw[World.cell?_setCells_in b vs o w h j (by omega)];rfl
 ·rw[World.cell?_setCells_out b vs o w _ (fun _ _=>by show k<o∨o+vs.length<=k;omega)]
  exact hk
theorem drew_setC (b:Nat):∀(vs:List Value) (o:Nat) (w:World),(w.setCells b o vs).drew=w.drew.setCells b o vs
 |[],_,_=>rfl
 |v::r,o,w=>by rw[World.setCells,World.setCells,drew_setC b r];rfl
theorem drew_cellC (w:World) (a:Addr):w.drew.cell? a=w.cell? a:=rfl
theorem drew_frozenC (w:World) (a:Addr):w.drew.frozen? a=w.frozen? a:=rfl
theorem grown_drewC (w:World) (r:Option Nat):w.grownBy w.drew r:=⟨rfl,rfl,rfl,Nat.le_refl _,fun _ _ _=>rfl⟩
theorem wpList_copy_known {P:Program} (w:World) {ops:Array Oper} {rest:List Oper} {o:Oper} {a:Act} {Q:Exit->Act->World->Prop} (hg:o.guard=none) (d s:Operand) (t t':TypeId)
 (ho:o.op=.call {callee:=.builtin .copy,args:= #[d,s],argTypes:= #[t,t']}) (v u:Value) (hd:a.eval d=v) (hs:a.eval s=u) {v':Value} {w':World}
 (hr:(Builtin.copy_ #[t,t'] o.type #[v,u]).run P w=.ok v' w') (h:wpList P ops Q rest (a.put o.dst v') w'):wpList P ops Q (o::rest) a w:=by
 refine wpList_plain hg fun K hK=> ?_;unfold Oper.wp;simp[execOp,ho,resolve,invoke,builtin,hd,hs,hr,Result.andThen];exact hK _ _ h
theorem step_copy_known {P:Program} {ops:Array Oper} {o:Oper} {a:Act} {w:World} {K:Act->World->Prop} {Q:Exit->Act->World->Prop} {E:Prop}
 (hg:o.guard=none) (d s:Operand) (t t':TypeId) (ho:o.op=.call {callee:=.builtin .copy,args:= #[d,s],argTypes:= #[t,t']})
 (v u:Value) (hd:a.eval d=v) (hs:a.eval s=u) {v':Value} {w':World} (hr:(Builtin.copy_ #[t,t'] o.type #[v,u]).run P w=.ok v' w') (hK:K (a.put o.dst v') w'):
 if Region.wanted o (yielded ops a.tmps)=true then Oper.wp P o a w K Q else E:=by
 rw[if_pos (by simp[Region.wanted,hg])];unfold Oper.wp;simp[execOp,ho,resolve,invoke,builtin,hd,hs,hr,Result.andThen];exact hK
end Go.Proofs.YthkmpihfhkmaoaaGreatDoor
namespace Go.Proofs.YthkmpihfhkmaoaaGreatDoor
open Go.ChangeShapes Go.WideShapes Go.ChangeAt Go.RowKit Go.Lib
theorem insertPin_info:∃i:TypeInfo,Tryz.prog.info? 130=some i/\i.zero=some (.agg #[.string ⟨#[]⟩,.string ⟨#[]⟩])/\i.size=2/\i.bytes=32:=by
 obtain⟨i0,hi,h0,h1,h2⟩:=info_parts Tryz.infoPin;exact⟨i0,hi,h0,h1,h2⟩
theorem insertPin_v {w:World} {vb:Nat} {x:Pd} (hv:w.heap[vb]?=some (.cells #[.string x.name,.string x.sum] 130 (0,0))):∀j u,(rowC pC [x])[j]?=some u->w.cell? ⟨vb,j,none⟩=some u:=by
 intro j u hu;rw[rowC,List.flatMap_cons,List.flatMap_nil,List.append_nil] at hu;simp only[World.cell?,hv];rw[←hu];simp[pC]
set_option maxRecDepth 20000 in
set_option maxHeartbeats 4000000 in
theorem insertPin_end (P:Value) (ss:List Pd) (x:Pd) (vb:Nat) (w:World) (base:Nat) (ho:w.ownsRow base 130 2 P ss.length (rowC pC ss)) (hl:ss.length<=600) (hbase:base<=w.heap.size) (hv:w.heap[vb]?=some (.cells #[.string x.name,.string x.sum] 130 (0,0))):
 Calls Tryz.prog 172 #[P,.int .i64 ss.length,.slice (some ⟨vb,0,none⟩) 1 1] w fun e w'=>∃P',e=.returned P'/\w'.ownsRow base 130 2 P' (ss.length+1) (rowC pC (ss++[x]))/\w.grownBy w' P.ownBlock/\(P'.ownBlock=P.ownBlock∨P'.ownBlock=some w.heap.size):=by
 obtain⟨i0,hinf,hz0,hz1,hz2⟩:=insertPin_info
 obtain⟨v',w',hr,h2,h3,_,h5⟩:=run_append_own_at (P:=Tryz.prog) w base 35 35 130 i0 _ 2 32 Tryz.underlying35 hinf hz0 hz1 hz2 rfl (by decide) P ss.length (rowC pC ss) ho ⟨vb,0,none⟩ 1 1 (rowC pC [x]) (by rw[row_len pC_len];rfl) (fun j u hu=>by rw[Go.WideShapes.add_plain,Nat.zero_add];exact insertPin_v hv j u hu) (oneP _) (by unfold maxLen;omega) (by omega) hbase;rw[←row_append] at h2
 have HO:Hid _:=And.intro h2 (And.intro h3 h5);clear h2 h3 h5;rcases ho.2 with⟨e,hn0⟩|⟨g,cap,cur,e,hb,hg,h1,h2,h3,h4⟩
 ·subst e
  rw[hn0] at HO ⊢;clear ho hv hinf hz0 hz1 hz2;go_enter Tryz.func172,Tryz.ntmps172;go_wp2_with (at_builtin;refine Lib.wpList_append_run _ rfl _ _ _ _ rfl _ _ rfl rfl _ _ hr ?_);go_ret;exact⟨v',rfl,HO.out⟩
 ·subst e
  clear ho hv hinf hz0 hz1 hz2 hg h3 h4;unfold maxLen at h2;by_cases hc:cap=ss.length
  ·subst hc
   go_enter Tryz.func172,Tryz.ntmps172;go_wp2_with (at_builtin;refine Lib.wpList_append_run _ rfl _ _ _ _ rfl _ _ rfl rfl _ _ hr ?_);go_ret;exact⟨v',rfl,HO.out⟩
  ·go_enter Tryz.func172,Tryz.ntmps172
   go_wp2_with (at_builtin;refine Lib.wpList_append_run _ rfl _ _ _ _ rfl _ _ rfl rfl _ _ hr ?_);go_ret;exact⟨v',rfl,HO.out⟩
set_option maxRecDepth 20000 in
set_option maxHeartbeats 4000000 in
theorem insertPin_shift (g cap i:Nat) (ss:List Pd) (x:Pd) (vb:Nat) (w:World) (base:Nat) (ho:w.ownsRow base 130 2 (.slice (some ⟨g,0,none⟩) ss.length cap) ss.length (rowC pC ss)) (hl:ss.length<=600) (hi:i<ss.length) (hroom:ss.length+1<=cap) (hvg:vb≠g) (hv:w.heap[vb]?=some (.cells #[.string x.name,.string x.sum] 130 (0,0))):
 Calls Tryz.prog 172 #[.slice (some ⟨g,0,none⟩) ss.length cap,.int .i64 i,.slice (some ⟨vb,0,none⟩) 1 1] w fun e w'=>e=.returned (.slice (some ⟨g,0,none⟩) (ss.length+1) cap)/\w'.ownsRow base 130 2 (.slice (some ⟨g,0,none⟩) (ss.length+1) cap) (ss.length+1) (rowC pC (ss.take i++[x]++ss.drop i))/\w.grownBy w' (some g):=by
 obtain⟨i0,hinf,hz0,hz1,hz2⟩:=insertPin_info;obtain⟨cur,hg,hc1,hc2,hc3,hc4⟩:∃cur,w.heap[g]?=some (.cells cur 130 (0,0))/\ss.length<=cap/\cap<=maxLen/\cur.size=cap *2/\cur.toList.take (ss.length *2)=rowC pC ss:=by
  rcases ho.2 with⟨e,_⟩|⟨g',cap',cur,e,hb,hg,h1,h2,h3,h4⟩
  ·cases e
  ·cases e;exact⟨cur,hg,h1,h2,h3,h4⟩
 have hxs:(rowC pC ss).length=ss.length *2:=row_len pC_len ss;have hvl:(rowC pC [x]).length=2:=by rw[row_len pC_len];rfl
 have hdl:((rowC pC ss).drop (i *2)).length=(ss.length -i) *2:=by rw[List.length_drop,hxs];omega
 have hsome:∀j,j<cap *2->(w.cell? ⟨g,j,none⟩).isSome=true:=fun j hj=>by
  simp only[World.cell?,hg];rw[Array.getElem?_eq_getElem (by omega)];rfl
 have hov:∀lb cb,(callFunc 202 #[.slice (some ⟨vb,0,none⟩) 1 1,.slice (some ⟨g,(i+1) *2,none⟩) lb cb]).run Tryz.prog w=.ok (.value (.bool false)) w:=fun lb cb=>by
  rw[run_callFunc_extern Tryz.func202 (by kernel_rfl) (by kernel_rfl) (by kernel_rfl) (e:=Extern.SlicesOverlaps.overlaps #[35,35] #[4]) (by kernel_rfl),
   Lib.run_overlaps_apart w 35 4 130 Tryz.underlying35 2 (fun w=>by simp[sizeOf,typeInfo,hinf,hz1]) ⟨vb,0,none⟩ ⟨g,(i+1) *2,none⟩ 1 1 lb cb hvg 130 130 (#[.string x.name,.string x.sum]:Array Value).size cur.size (by simp only[World.shape?,hv]) (by simp only[World.shape?,hg]) (by rw[hc3];omega) (by simp only[World.frozen?,hv];rfl) (by simp[World.frozen?,hv])]
  rfl
 have hcp1:∀ty dc sc,(Builtin.copy_ #[35,35] ty #[.slice (some ⟨g,(i+1) *2,none⟩) (ss.length+1 -(i+1)) dc,.slice (some ⟨g,i *2,none⟩) (ss.length+1 -i) sc]).run Tryz.prog w.drew=.ok (goInt (Nat.min (ss.length+1 -i) (ss.length+1 -(i+1)))) (w.drew.setCells g ((i+1) *2) ((rowC pC ss).drop (i *2))):=fun ty dc sc=>
  run_copy_wide w.drew 35 35 ty 130 i0 2 g ((i+1) *2) (ss.length+1 -(i+1)) dc ⟨g,i *2,none⟩ (ss.length+1 -i) sc ((rowC pC ss).drop (i *2)) Tryz.underlying35 hinf hz1 (by rw[hdl];congr 1;show _=min _ _;omega)
   (fun j v hj=>by
     rw[Go.WideShapes.add_plain];rw[List.getElem?_drop] at hj;have:=(List.getElem?_eq_some_iff.1 hj).1;exact(ho.cellAt _ (by omega)).trans hj)
   (fun j hj=>hsome _ (by omega)) (fun j _=>ho.frozenAt _) (fun v hv=>oneP _ v (List.mem_of_mem_drop hv))
 obtain⟨W1,hW1⟩:∃W1,W1=w.drew.setCells g ((i+1) *2) ((rowC pC ss).drop (i *2)):=⟨_,rfl⟩;have hcp2:∀ty dc,(Builtin.copy_ #[35,35] ty #[.slice (some ⟨g,i *2,none⟩) (ss.length+1 -i) dc,.slice (some ⟨vb,0,none⟩) 1 1]).run Tryz.prog W1=.ok (goInt (Nat.min 1 (ss.length+1 -i))) (W1.setCells g (i *2) (rowC pC [x])):=fun ty dc=>
  run_copy_wide W1 35 35 ty 130 i0 2 g (i *2) (ss.length+1 -i) dc ⟨vb,0,none⟩ 1 1 (rowC pC [x]) Tryz.underlying35 hinf hz1 (by rw[hvl,show Nat.min 1 (ss.length+1 -i)=1 from Nat.min_eq_left (by omega),Nat.one_mul])
   (fun j v hj=>by
     rw[Go.WideShapes.add_plain,Nat.zero_add,hW1,World.cell?_setCells_out g _ _ _ _ (fun h _=>absurd h hvg)];exact insertPin_v hv j v hj)
   (fun j hj=>by rw[hW1];exact some_setC g ((rowC pC ss).drop (i *2)) ((i+1) *2) w.drew (fun t ht=>hsome _ (by omega)) (i *2+j) (hsome _ (by omega))) (fun j _=>by rw[hW1,World.frozen?_setCells];exact ho.frozenAt _) (oneP _)
 have hfin:(W1.setCells g (i *2) (rowC pC [x])).ownsRow base 130 2 (.slice (some ⟨g,0,none⟩) (ss.length+1) cap) (ss.length+1) (rowC pC (ss.take i++[x]++ss.drop i))/\w.grownBy (W1.setCells g (i *2) (rowC pC [x])) (some g):=by
  refine⟨?_,?_⟩
  ·rw[row_append,row_append,←row_take pC_len ss i (by omega),←row_drop pC_len ss i (by omega),hW1]
   exact own_shift (w:=w.drew) (own_below ho ((Below.refl _ _).drew)) (by omega) hvl hroom
  ·rw[hW1]
   exact grown_trans (grown_undrew (grown_setC g _ _ _)) (grown_setC g _ _ _)
 have HF:Hid _:=hfin;rw[←hW1] at hcp1;unfold maxLen at hc2;have hz1:¬((i:Int)=(ss.length:Int)):=by omega
 have hp0:(0:Int)<=(i:Int)+1:=by omega
 have hp1:(i:Int)+1<=(ss.length:Int)+1:=by omega
 have hp2:((i:Int)+1).toNat=i+1:=by omega
 have hp3:((ss.length:Int)+1).toNat=ss.length+1:=by omega
 have hp4:(0:Int)<=(ss.length:Int)+1:=by omega
 have hp5:(ss.length:Int)+1<=(cap:Int):=by omega
 have hb2:¬(cap=i+1):=by omega
 have hb4:¬(cap=i):=by omega
 have hb5:i<=ss.length+1:=by omega
 have hb7:(i:Int)<=(ss.length:Int)+1:=by omega
 have hb8:(i:Int)<=(ss.length:Int):=by omega
 have mixed:Tryz.prog.follows .mixedOrders=true:=by kernel_rfl
 have hw1:IntKind.i64.wrap ((i:Int)+1)=(i:Int)+1:=by rw[IntKind.wrap_i64];omega
 have hw2:IntKind.i64.wrap ((ss.length:Int)+1)=(ss.length:Int)+1:=by rw[IntKind.wrap_i64];omega
 clear ho hsome hfin hv hg hc4 hc3 hinf hz0 hz2 hxs hvl hdl hW1;go_enter Tryz.func172,Tryz.ntmps172;go_wp2_with (simp only[hov])
 go_region_law_o (refine step_copy_known rfl _ _ 35 35 rfl (.slice (some ⟨g,(i+1) *2,none⟩) (ss.length+1 -(i+1)) (cap -(i+1))) (.slice (some ⟨g,i *2,none⟩) (ss.length+1 -i) (cap -i)) (by simp[Act.eval,Act.put]) (by simp[Act.eval,Act.put]) (hcp1 3 (cap -(i+1)) (cap -i)) ?_)
 go_wp2_with (at_builtin;refine wpList_copy_known _ rfl _ _ 35 35 rfl _ _ rfl rfl (hcp2 _ _) ?_);go_ret;exact⟨rfl,HF.out⟩
set_option maxRecDepth 20000 in
set_option maxHeartbeats 4000000 in
theorem insertPin_grow (g cap i:Nat) (ss:List Pd) (x:Pd) (vb:Nat) (w:World) (base:Nat) (ho:w.ownsRow base 130 2 (.slice (some ⟨g,0,none⟩) ss.length cap) ss.length (rowC pC ss)) (hl:ss.length<=600) (hi:i<ss.length) (hroom:cap<ss.length+1) (hbase:base<=w.heap.size) (hv:w.heap[vb]?=some (.cells #[.string x.name,.string x.sum] 130 (0,0))):
 Calls Tryz.prog 172 #[.slice (some ⟨g,0,none⟩) ss.length cap,.int .i64 i,.slice (some ⟨vb,0,none⟩) 1 1] w fun e w'=>∃G,e=.returned (.slice (some ⟨w.heap.size,0,none⟩) (ss.length+1) G)/\w'.ownsRow base 130 2 (.slice (some ⟨w.heap.size,0,none⟩) (ss.length+1) G) (ss.length+1) (rowC pC (ss.take i++[x]++ss.drop i))/\w.grownBy w' none:=by
 obtain⟨i0,hinf,hz0,hz1,hz2⟩:=insertPin_info;have hgw:g<w.heap.size:=(own_lt ho rfl).2;have hvw:vb<w.heap.size:=(Array.getElem?_eq_some_iff.1 hv).1;have hnc:ss.length<=cap:=by
  rcases ho.2 with⟨e,_⟩|⟨g',cap',cur,e,hb,hg,h1,h2,h3,h4⟩
  ·cases e
  ·cases e;exact h1
 have hxs:(rowC pC ss).length=ss.length *2:=row_len pC_len ss;have hvl:(rowC pC [x]).length=2:=by rw[row_len pC_len];rfl
 have hdl:((rowC pC ss).drop (i *2)).length=(ss.length -i) *2:=by rw[List.length_drop,hxs];omega
 have htl:((rowC pC ss).take (i *2)).length=i *2:=by rw[List.length_take,hxs];omega
 have hold:(Builtin.firstCells i0.size i (.slice (some ⟨g,0,none⟩) i cap)).run Tryz.prog w.drew=.ok ((rowC pC ss).take (i *2)).toArray w.drew:=by
  rw[hz1];exact run_firstCells_some w.drew 2 i ⟨g,0,none⟩ i cap ((rowC pC ss).take (i *2)) htl (fun j v hj=>by
   rw[Go.WideShapes.add_plain,Nat.zero_add];rw[List.getElem?_take] at hj;split at hj
   ·exact(ho.cellAt _ (by omega)).trans hj
   ·cases hj)
 obtain⟨G,hG⟩:∃G,G=grownCap w (ss.length+1) cap 130:=⟨_,rfl⟩;obtain⟨zc,hzc,hzcs⟩:∃zc:Array Value,zc=Value.cells (.agg #[.string ⟨#[]⟩,.string ⟨#[]⟩])/\zc.size=2:=⟨_,rfl,by kernel_rfl⟩;obtain⟨zs,hzs⟩:∃zs:List Value,zs=(Builtin.zeroCells zc (ss.length+1 -i)).toList++(Builtin.zeroCells zc (G -(ss.length+1))).toList:=⟨_,rfl⟩;have hGn:ss.length+1<=G:=by rw[hG];exact grownCap_ge w _ _ _
 have hG63:G<=maxLen:=by
  rw[hG];exact grownCap_le_maxLen w (ss.length+1) cap 130 (by unfold maxLen;omega)
 have hzl:i *2+zs.length=G *2:=by
  rw[hzs];simp[Builtin.zeroCells,hzcs];omega
 have hrz:∀ty,(Builtin.append_ #[35,3] ty #[.slice (some ⟨g,0,none⟩) i cap,.int .i64 ((ss.length:Int)+1 -(i:Int))]).run Tryz.prog w=
  .ok (.slice (some ⟨w.heap.size,0,none⟩) (ss.length+1) G) (w.drew.alloc (.cells ((rowC pC ss).take (i *2)++zs).toArray 130)):=fun ty=>by
  have hik:i+(ss.length+1 -i)=ss.length+1:=by omega
  have h:=Lib.run_append_grow_zeros (P:=Tryz.prog) w 35 3 ty 130 i0 _ .i64 .i64 Tryz.underlying35 Tryz.underlying3 hinf hz0 (some ⟨g,0,none⟩) i cap ((rowC pC ss).take (i *2)) hold (ss.length+1 -i) (by omega) (by rw[hz1];omega) (by omega) (by omega) (by rw[hz2];omega) (by rw[hz2,hik];exact growslice_fits hroom (by omega));rw[hik,←hG,←hzc] at h
  rw[show(ss.length:Int)+1 -(i:Int)=((ss.length+1 -i:Nat):Int) by omega,h,hzs];have e:((rowC pC ss).take (i *2)).toArray++Builtin.zeroCells zc (ss.length+1 -i)++Builtin.zeroCells zc (G -(ss.length+1))=((rowC pC ss).take (i *2)++((Builtin.zeroCells zc (ss.length+1 -i)).toList++(Builtin.zeroCells zc (G -(ss.length+1))).toList)).toArray:=by
   apply Array.toList_inj.1;simp
  rw[e]
 obtain⟨W1,hW1⟩:∃W1,W1=w.drew.alloc (.cells ((rowC pC ss).take (i *2)++zs).toArray 130):=⟨_,rfl⟩;have hrow:W1.heap[w.heap.size]?=some (.cells ((rowC pC ss).take (i *2)++zs).toArray 130 (0,0)):=by rw[hW1];exact heap_alloc_new w.drew _
 have hN:∀j,j<G *2->(W1.cell? ⟨w.heap.size,j,none⟩).isSome=true:=fun j hj=>by
  simp only[World.cell?,hrow];rw[Array.getElem?_eq_getElem (by simp[htl];omega)];rfl
 have hNf:∀j,W1.frozen? ⟨w.heap.size,j,none⟩=false:=fun j=>by simp[World.frozen?,hrow]
 have hO:∀b,b<w.heap.size->W1.heap[b]?=w.heap[b]?:=fun b hb=>by rw[hW1];exact alloc_same w.drew _ hb
 have hcpA:∀ty dc,(Builtin.copy_ #[35,35] ty #[.slice (some ⟨w.heap.size,i *2,none⟩) (ss.length+1 -i) dc,.slice (some ⟨vb,0,none⟩) 1 1]).run Tryz.prog W1=.ok (goInt (Nat.min 1 (ss.length+1 -i))) (W1.setCells w.heap.size (i *2) (rowC pC [x])):=fun ty dc=>
  run_copy_wide W1 35 35 ty 130 i0 2 w.heap.size (i *2) (ss.length+1 -i) dc ⟨vb,0,none⟩ 1 1 (rowC pC [x]) Tryz.underlying35 hinf hz1 (by rw[hvl,show Nat.min 1 (ss.length+1 -i)=1 from Nat.min_eq_left (by omega),Nat.one_mul])
   (fun j v hj=>by
     rw[Go.WideShapes.add_plain,Nat.zero_add,World.cell?_of_block (hO vb hvw)];exact insertPin_v hv j v hj)
   (fun j hj=>hN _ (by omega)) (fun j _=>hNf _) (oneP _)
 obtain⟨W2,hW2⟩:∃W2,W2=(W1.setCells w.heap.size (i *2) (rowC pC [x])).drew:=⟨_,rfl⟩
 have hcpB:∀ty dc sc,(Builtin.copy_ #[35,35] ty #[.slice (some ⟨w.heap.size,(i+1) *2,none⟩) (ss.length+1 -(i+1)) dc,.slice (some ⟨g,i *2,none⟩) (ss.length -i) sc]).run Tryz.prog W2=.ok (goInt (Nat.min (ss.length -i) (ss.length+1 -(i+1)))) (W2.setCells w.heap.size ((i+1) *2) ((rowC pC ss).drop (i *2))):=fun ty dc sc=>
  run_copy_wide W2 35 35 ty 130 i0 2 w.heap.size ((i+1) *2) (ss.length+1 -(i+1)) dc ⟨g,i *2,none⟩ (ss.length -i) sc ((rowC pC ss).drop (i *2)) Tryz.underlying35 hinf hz1 (by rw[hdl];congr 1;show _=min _ _;omega)
   (fun j v hj=>by
     rw[List.getElem?_drop] at hj;have:=(List.getElem?_eq_some_iff.1 hj).1;rw[Go.WideShapes.add_plain,hW2,drew_cellC,World.cell?_setCells_out _ _ _ _ _ (fun h _=>absurd h (Nat.ne_of_lt hgw)),World.cell?_of_block (hO g hgw)];exact(ho.cellAt _ (by omega)).trans hj)
   (fun j hj=>by rw[hW2,drew_cellC];exact some_setC w.heap.size (rowC pC [x]) (i *2) W1 (fun t ht=>hN _ (by omega)) ((i+1) *2+j) (hN _ (by omega))) (fun j _=>by rw[hW2,drew_frozenC,World.frozen?_setCells];exact hNf _) (fun v hv=>oneP _ v (List.mem_of_mem_drop hv))
 have hfin:(W2.setCells w.heap.size ((i+1) *2) ((rowC pC ss).drop (i *2))).ownsRow base 130 2 (.slice (some ⟨w.heap.size,0,none⟩) (ss.length+1) G) (ss.length+1) (rowC pC (ss.take i++[x]++ss.drop i))/\w.grownBy (W2.setCells w.heap.size ((i+1) *2) ((rowC pC ss).drop (i *2))) none:=by
  refine⟨?_,?_⟩
  ·rw[row_append,row_append,←row_take pC_len ss i (by omega),←row_drop pC_len ss i (by omega),hW2,←drew_setC]
   exact own_below (own_grow (w:=W1) hxs (by omega) hvl hbase hrow hzl hGn hG63) ((Below.refl _ _).drew)
  ·have s1:W1.heap.size=w.heap.size+1:=by rw[hW1];simp
   have e1:w.grownBy W1 none:=by rw[hW1];exact⟨rfl,rfl,rfl,by simp,fun b hb _=>alloc_same w.drew _ hb⟩
   have e2:W1.grownBy (W2.setCells w.heap.size ((i+1) *2) ((rowC pC ss).drop (i *2))) (some w.heap.size):=by
    rw[hW2];exact grown_trans (grown_trans (grown_setC w.heap.size (rowC pC [x]) (i *2) W1) (grown_drewC _ _)) (grown_setC w.heap.size ((rowC pC ss).drop (i *2)) ((i+1) *2) _)
   exact⟨e2.os.trans e1.os,e2.tape.trans e1.tape,e2.output.trans e1.output,Nat.le_trans e1.size e2.size,fun b hb _=>(e2.block b (by omega) (by simp;omega)).trans (e1.block b hb (by simp))⟩
 have HF:Hid _:=hfin;have hG63':G<=9223372036854775807:=by unfold maxLen at hG63;omega
 have hq1:¬((i:Int)=(ss.length:Int)):=by omega
 have hq2:(cap:Int)<(ss.length:Int)+1:=by omega
 have hp0:(0:Int)<=(i:Int)+1:=by omega
 have hp1:(i:Int)+1<=(ss.length:Int)+1:=by omega
 have hp2:((i:Int)+1).toNat=i+1:=by omega
 have hb2:¬(cap=i):=by omega
 have hb3:¬(G=i):=by omega
 have hb4:¬(G=i+1):=by omega
 have hb5:i<=ss.length+1:=by omega
 have hb7:(i:Int)<=(ss.length:Int)+1:=by omega
 have hb8:(i:Int)<=(ss.length:Int):=by omega
 have mixed:Tryz.prog.follows .mixedOrders=true:=by kernel_rfl
 have hb6:i<=cap:=by omega
 have hw1:IntKind.i64.wrap ((i:Int)+1)=(i:Int)+1:=by rw[IntKind.wrap_i64];omega
 have hw2:IntKind.i64.wrap ((ss.length:Int)+1)=(ss.length:Int)+1:=by rw[IntKind.wrap_i64];omega
 have hw3:IntKind.i64.wrap ((ss.length:Int)+1 -(i:Int))=(ss.length:Int)+1 -(i:Int):=by rw[IntKind.wrap_i64];omega
 rw[←hW1] at hrz;clear ho hfin hv hinf hz0 hz2 hxs hvl hdl htl hold hG hzs hzl hrow hN hNf hO hW1 hgw hvw;go_enter Tryz.func172,Tryz.ntmps172;go_wp2_with (first
  |(at_builtin;refine Lib.wpList_append_run _ rfl _ _ _ _ rfl _ _ rfl rfl _ _ (hrz _) ?_)
  |(at_builtin;refine wpList_copy_known _ rfl _ _ 35 35 rfl _ _ rfl rfl (hcpA _ _) ?_))
 go_region_law_o (refine step_copy_known rfl _ _ 35 35 rfl (.slice (some ⟨w.heap.size,(i+1) *2,none⟩) (ss.length+1 -(i+1)) (G -(i+1))) (.slice (some ⟨g,i *2,none⟩) (ss.length -i) (cap -i)) (by simp[Act.eval,Act.put]) (by simp[Act.eval,Act.put]) (by rw[←hW2];exact hcpB 3 (G -(i+1)) (cap -i)) ?_)
 go_wp2;go_ret;rw[←hW2];exact⟨G,rfl,HF.out⟩
theorem insertPin_any (P:Value) (i:Nat) (ss:List Pd) (x:Pd) (vb:Nat) (w:World) (base:Nat) (ho:w.ownsRow base 130 2 P ss.length (rowC pC ss)) (hl:ss.length<=600) (hi:i<=ss.length) (hbase:base<=w.heap.size) (hvb:P.ownBlock≠some vb) (hv:w.heap[vb]?=some (.cells #[.string x.name,.string x.sum] 130 (0,0))):
 Calls Tryz.prog 172 #[P,.int .i64 i,.slice (some ⟨vb,0,none⟩) 1 1] w fun e w'=>∃P',e=.returned P'/\w'.ownsRow base 130 2 P' (ss.length+1) (rowC pC (ss.take i++[x]++ss.drop i))/\w.grownBy w' P.ownBlock/\(P'.ownBlock=P.ownBlock∨P'.ownBlock=some w.heap.size):=by
 rcases Nat.lt_or_ge i ss.length with h|h
 ·rcases ho.2 with⟨e,hn⟩|⟨g,cap,cur,e,hb,hg,h1,h2,h3,h4⟩
  ·omega
  ·subst e
   rcases Nat.lt_or_ge cap (ss.length+1) with hc|hc
   ·refine Calls.mono (insertPin_grow g cap i ss x vb w base ho hl h hc hbase hv) ?_
    rintro e w' ⟨G,rfl,q1,q2⟩;exact⟨_,rfl,q1,⟨q2.os,q2.tape,q2.output,q2.size,fun b hb _=>q2.block b hb (by simp)⟩,.inr rfl⟩
   ·refine Calls.mono (insertPin_shift g cap i ss x vb w base ho hl h hc (fun e=>hvb (by rw[e];rfl)) hv) ?_
    rintro e w' ⟨rfl,q1,q2⟩;exact⟨_,rfl,q1,q2,.inl rfl⟩
 ·obtain rfl:i=ss.length:=by omega
  rw[List.take_length,List.drop_length,List.append_nil];exact insertPin_end P ss x vb w base ho hl hbase hv
end Go.Proofs.YthkmpihfhkmaoaaGreatDoor
