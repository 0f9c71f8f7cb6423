import Derived.Test.YtpekbmegopfhfaaGreatDoorW33
import Derived.Test.YtpekbmegopfhfaaGreatDoorW12
import Derived.Test.YtpekbmegopfhfaaGreatDoorW13
namespace Go.Proofs.YtpekbmegopfhfaaGreatDoor
open Go.ChangeShapes Go.WideShapes Go.ChangeAt Go.RowKit
set_option maxRecDepth 20000 in
set_option maxHeartbeats 4000000 in
theorem l4Apply_put (wd now given births:Int) (ta pa la:Option Addr) (tn tc pn pc ln lc:Nat) (s nm text:ByteArray) (num:Int) (ra:Option Addr) (rn rc:Nat) (w:World) (V:List Nat) (Q:World->Ending->World->Prop) (Q':Ending->World->Prop) (hV:∀b∈V,b<w.heap.size)
 (hc:∀X,Below w.heap.size w X->w.heap.size+3<=X.heap.size->Calls Tryz.prog 85 #[.agg #[.int .i64 wd,.int .i64 now,.int .i64 given,.int .i64 births,.slice ta tn tc,.slice pa pn pc,.slice la ln lc],.agg #[.int .i64 1,.string s,.string nm,.int .i64 num,.string text,.slice ra rn rc]] X (Q X))
 (hf:∀X e w',Q X e w'->Tn V X w'/\∃(c0 c1 c2 c3 c4:Int) (ta':Option Addr) (tn' tc':Nat) (pa':Option Addr) (pn' pc':Nat) (la':Option Addr) (ln' lc':Nat) (sm':ByteArray) (le':Int) (a' b':ByteArray),e=.returned (.agg #[.int .i64 c0,.int .i64 c1,.int .i64 c2,.int .i64 c3,.int .i64 c4,.slice ta' tn' tc',.slice pa' pn' pc',.slice la' ln' lc',.string sm',.int .i64 le',.string a',.string b']))
 (hq:∀X e w' w'',Below w.heap.size w X->w.heap.size+3<=X.heap.size->Q X e w'->Tn [w.heap.size+2] w' w''->Q' e w''):
 Calls Tryz.prog 42 #[.agg #[.int .i64 wd,.int .i64 now,.int .i64 given,.int .i64 births,.slice ta tn tc,.slice pa pn pc,.slice la ln lc],.agg #[.int .i64 1,.string s,.string nm,.int .i64 num,.string text,.slice ra rn rc]] w Q':=by
 obtain ⟨W,hW⟩:∃W,W=((w.alloc (.cells #[.int .i64 wd,.int .i64 now,.int .i64 given,.int .i64 births,.slice ta tn tc,.slice pa pn pc,.slice la ln lc] 28)).alloc (.cells #[.int .i64 1,.string s,.string nm,.int .i64 num,.string text,.slice ra rn rc] 77)).alloc (.cells #[.int .i64 0,.int .i64 0,.int .i64 0,.int .i64 0,.int .i64 0,.slice none 0 0,.slice none 0 0,.slice none 0 0,.string ⟨#[]⟩,.int .i64 0,.string ⟨#[]⟩,.string ⟨#[]⟩] 30):=⟨_,rfl⟩
 have bW:Below w.heap.size w W:=by rw [hW];exact (((Below.refl _ _).alloc (Nat.le_refl _) _).alloc (by simp) _).alloc (by simp;omega) _
 have hzW:W.heap.size=w.heap.size+3:=by rw [hW];simp
 have x0:CellsAt W w.heap.size [.int .i64 wd,.int .i64 now,.int .i64 given,.int .i64 births,.slice ta tn tc,.slice pa pn pc,.slice la ln lc]:=by
  rw [hW]
  exact CellsAt.below (CellsAt.new w _ 28) (((Below.refl _ _).alloc (Nat.le_refl _) _).alloc (by simp) _)
 have xe:CellsAt W (w.heap.size+1) [.int .i64 1,.string s,.string nm,.int .i64 num,.string text,.slice ra rn rc]:=by
  have h1:=CellsAt.new (w.alloc (.cells #[.int .i64 wd,.int .i64 now,.int .i64 given,.int .i64 births,.slice ta tn tc,.slice pa pn pc,.slice la ln lc] 28)) [.int .i64 1,.string s,.string nm,.int .i64 num,.string text,.slice ra rn rc] 77
  rw [World.size_alloc] at h1
  rw [hW]
  exact CellsAt.below h1 ((Below.refl _ _).alloc (Nat.le_refl _) _)
 have x1:CellsAt W (w.heap.size+2) z12:=by
  have h1:=CellsAt.new ((w.alloc (.cells #[.int .i64 wd,.int .i64 now,.int .i64 given,.int .i64 births,.slice ta tn tc,.slice pa pn pc,.slice la ln lc] 28)).alloc (.cells #[.int .i64 1,.string s,.string nm,.int .i64 num,.string text,.slice ra rn rc] 77)) z12 30
  rw [World.size_alloc,World.size_alloc] at h1
  rw [hW]
  exact h1
 have HC:Hid _:=hc W bW (by omega)
 have HQ:Hid (∀e w' w'',Q W e w'->Tn [w.heap.size+2] w' w''->Q' e w''):=fun e w' w'' h1 h2=>hq W e w' w'' bW (by omega) h1 h2
 have HF:Hid (∀e w',Q W e w'->Tn V W w'/\∃(c0 c1 c2 c3 c4:Int) (ta':Option Addr) (tn' tc':Nat) (pa':Option Addr) (pn' pc':Nat) (la':Option Addr) (ln' lc':Nat) (sm':ByteArray) (le':Int) (a' b':ByteArray),e=.returned (.agg #[.int .i64 c0,.int .i64 c1,.int .i64 c2,.int .i64 c3,.int .i64 c4,.slice ta' tn' tc',.slice pa' pn' pc',.slice la' ln' lc',.string sm',.int .i64 le',.string a',.string b'])):=hf W
 have HX1:Hid (CellsAt W (w.heap.size+2) z12):=x1
 have HV:Hid (∀b∈V,b<w.heap.size):=hV
 have HW:Hid _:=hW
 obtain ⟨v0,_⟩:=x0 0 _ rfl
 obtain ⟨v1,_⟩:=x0 1 _ rfl
 obtain ⟨v2,_⟩:=x0 2 _ rfl
 obtain ⟨v3,_⟩:=x0 3 _ rfl
 obtain ⟨v4,_⟩:=x0 4 _ rfl
 obtain ⟨v5,_⟩:=x0 5 _ rfl
 obtain ⟨v6,_⟩:=x0 6 _ rfl
 obtain ⟨e0,_⟩:=xe 0 _ rfl
 obtain ⟨e1,_⟩:=xe 1 _ rfl
 obtain ⟨e2,_⟩:=xe 2 _ rfl
 obtain ⟨e3,_⟩:=xe 3 _ rfl
 obtain ⟨e4,_⟩:=xe 4 _ rfl
 obtain ⟨e5,_⟩:=xe 5 _ rfl
 clear hW x0 xe x1 hc hq hf hV bW
 go_enter Tryz.func42,Tryz.ntmps42
 go_upto_region 1 with fail
 rw [←HW.out]
 clear HW
 go_wp2_with fail
 refine Calls.mono HC.out ?_
 intro e w1 hQ1
 obtain ⟨ht1,c0,c1,c2,c3,c4,ta',tn',tc',pa',pn',pc',la',ln',lc',sm',le',a',b',rfl⟩:=HF.out e w1 hQ1
 have x11:CellsAt w1 (w.heap.size+2) z12:=CellsAt.same HX1.out (ht1.block _ HX1.out.lt (fun h=>by have:=HV.out _ h;omega))
 obtain ⟨⟨y0,q0⟩,⟨y1,q1⟩,⟨y2,q2⟩,⟨y3,q3⟩,⟨y4,q4⟩,⟨y5,q5⟩,⟨y6,q6⟩,⟨y7,q7⟩,⟨y8,q8⟩,⟨y9,q9⟩,⟨y10,q10⟩,y11,q11⟩:=z12at x11
 have HQ1:Hid _:=hQ1
 clear hQ1 x11 ht1 v0 v1 v2 v3 v4 v5 v6 e0 e1 e2 e3 e4 e5 HC HF
 go_wp2
 refine bodyPost_ret (v:=.agg #[.int .i64 c0,.int .i64 c1,.int .i64 c2,.int .i64 c3,.int .i64 c4,.slice ta' tn' tc',.slice pa' pn' pc',.slice la' ln' lc',.string sm',.int .i64 le',.string a',.string b']) (by simp [results,Tryz.results42,go_sem,y0,y1,y2,y3,y4,y5,y6,y7,y8,y9,y10,y11]) rfl ?_
 exact HQ.out _ _ _ HQ1.out (tn12 w1 (w.heap.size+2) _ _ _ _ _ _ _ _ _ _ _ _)
set_option maxRecDepth 20000 in
set_option maxHeartbeats 4000000 in
theorem l4Apply_pin (wd now given births:Int) (ta pa la:Option Addr) (tn tc pn pc ln lc:Nat) (s nm text:ByteArray) (num:Int) (ra:Option Addr) (rn rc:Nat) (w:World) (V:List Nat) (Q:World->Ending->World->Prop) (Q':Ending->World->Prop) (hV:∀b∈V,b<w.heap.size)
 (hc:∀X,Below w.heap.size w X->w.heap.size+3<=X.heap.size->Calls Tryz.prog 86 #[.agg #[.int .i64 wd,.int .i64 now,.int .i64 given,.int .i64 births,.slice ta tn tc,.slice pa pn pc,.slice la ln lc],.agg #[.int .i64 2,.string s,.string nm,.int .i64 num,.string text,.slice ra rn rc]] X (Q X))
 (hf:∀X e w',Q X e w'->Tn V X w'/\∃(c0 c1 c2 c3 c4:Int) (ta':Option Addr) (tn' tc':Nat) (pa':Option Addr) (pn' pc':Nat) (la':Option Addr) (ln' lc':Nat) (sm':ByteArray) (le':Int) (a' b':ByteArray),e=.returned (.agg #[.int .i64 c0,.int .i64 c1,.int .i64 c2,.int .i64 c3,.int .i64 c4,.slice ta' tn' tc',.slice pa' pn' pc',.slice la' ln' lc',.string sm',.int .i64 le',.string a',.string b']))
 (hq:∀X e w' w'',Below w.heap.size w X->w.heap.size+3<=X.heap.size->Q X e w'->Tn [w.heap.size+2] w' w''->Q' e w''):
 Calls Tryz.prog 42 #[.agg #[.int .i64 wd,.int .i64 now,.int .i64 given,.int .i64 births,.slice ta tn tc,.slice pa pn pc,.slice la ln lc],.agg #[.int .i64 2,.string s,.string nm,.int .i64 num,.string text,.slice ra rn rc]] w Q':=by
 obtain ⟨W,hW⟩:∃W,W=((w.alloc (.cells #[.int .i64 wd,.int .i64 now,.int .i64 given,.int .i64 births,.slice ta tn tc,.slice pa pn pc,.slice la ln lc] 28)).alloc (.cells #[.int .i64 2,.string s,.string nm,.int .i64 num,.string text,.slice ra rn rc] 77)).alloc (.cells #[.int .i64 0,.int .i64 0,.int .i64 0,.int .i64 0,.int .i64 0,.slice none 0 0,.slice none 0 0,.slice none 0 0,.string ⟨#[]⟩,.int .i64 0,.string ⟨#[]⟩,.string ⟨#[]⟩] 30):=⟨_,rfl⟩
 have bW:Below w.heap.size w W:=by rw [hW];exact (((Below.refl _ _).alloc (Nat.le_refl _) _).alloc (by simp) _).alloc (by simp;omega) _
 have hzW:W.heap.size=w.heap.size+3:=by rw [hW];simp
 have x0:CellsAt W w.heap.size [.int .i64 wd,.int .i64 now,.int .i64 given,.int .i64 births,.slice ta tn tc,.slice pa pn pc,.slice la ln lc]:=by
  rw [hW]
  exact CellsAt.below (CellsAt.new w _ 28) (((Below.refl _ _).alloc (Nat.le_refl _) _).alloc (by simp) _)
 have xe:CellsAt W (w.heap.size+1) [.int .i64 2,.string s,.string nm,.int .i64 num,.string text,.slice ra rn rc]:=by
  have h1:=CellsAt.new (w.alloc (.cells #[.int .i64 wd,.int .i64 now,.int .i64 given,.int .i64 births,.slice ta tn tc,.slice pa pn pc,.slice la ln lc] 28)) [.int .i64 2,.string s,.string nm,.int .i64 num,.string text,.slice ra rn rc] 77
  rw [World.size_alloc] at h1
  rw [hW]
  exact CellsAt.below h1 ((Below.refl _ _).alloc (Nat.le_refl _) _)
 have x1:CellsAt W (w.heap.size+2) z12:=by
  have h1:=CellsAt.new ((w.alloc (.cells #[.int .i64 wd,.int .i64 now,.int .i64 given,.int .i64 births,.slice ta tn tc,.slice pa pn pc,.slice la ln lc] 28)).alloc (.cells #[.int .i64 2,.string s,.string nm,.int .i64 num,.string text,.slice ra rn rc] 77)) z12 30
  rw [World.size_alloc,World.size_alloc] at h1
  rw [hW]
  exact h1
 have HC:Hid _:=hc W bW (by omega)
 have HQ:Hid (∀e w' w'',Q W e w'->Tn [w.heap.size+2] w' w''->Q' e w''):=fun e w' w'' h1 h2=>hq W e w' w'' bW (by omega) h1 h2
 have HF:Hid (∀e w',Q W e w'->Tn V W w'/\∃(c0 c1 c2 c3 c4:Int) (ta':Option Addr) (tn' tc':Nat) (pa':Option Addr) (pn' pc':Nat) (la':Option Addr) (ln' lc':Nat) (sm':ByteArray) (le':Int) (a' b':ByteArray),e=.returned (.agg #[.int .i64 c0,.int .i64 c1,.int .i64 c2,.int .i64 c3,.int .i64 c4,.slice ta' tn' tc',.slice pa' pn' pc',.slice la' ln' lc',.string sm',.int .i64 le',.string a',.string b'])):=hf W
 have HX1:Hid (CellsAt W (w.heap.size+2) z12):=x1
 have HV:Hid (∀b∈V,b<w.heap.size):=hV
 have HW:Hid _:=hW
 obtain ⟨v0,_⟩:=x0 0 _ rfl
 obtain ⟨v1,_⟩:=x0 1 _ rfl
 obtain ⟨v2,_⟩:=x0 2 _ rfl
 obtain ⟨v3,_⟩:=x0 3 _ rfl
 obtain ⟨v4,_⟩:=x0 4 _ rfl
 obtain ⟨v5,_⟩:=x0 5 _ rfl
 obtain ⟨v6,_⟩:=x0 6 _ rfl
 obtain ⟨e0,_⟩:=xe 0 _ rfl
 obtain ⟨e1,_⟩:=xe 1 _ rfl
 obtain ⟨e2,_⟩:=xe 2 _ rfl
 obtain ⟨e3,_⟩:=xe 3 _ rfl
 obtain ⟨e4,_⟩:=xe 4 _ rfl
 obtain ⟨e5,_⟩:=xe 5 _ rfl
 clear hW x0 xe x1 hc hq hf hV bW
 go_enter Tryz.func42,Tryz.ntmps42
 go_upto_region 1 with fail
 rw [←HW.out]
 clear HW
 go_wp2_with fail
 refine Calls.mono HC.out ?_
 intro e w1 hQ1
 obtain ⟨ht1,c0,c1,c2,c3,c4,ta',tn',tc',pa',pn',pc',la',ln',lc',sm',le',a',b',rfl⟩:=HF.out e w1 hQ1
 have x11:CellsAt w1 (w.heap.size+2) z12:=CellsAt.same HX1.out (ht1.block _ HX1.out.lt (fun h=>by have:=HV.out _ h;omega))
 obtain ⟨⟨y0,q0⟩,⟨y1,q1⟩,⟨y2,q2⟩,⟨y3,q3⟩,⟨y4,q4⟩,⟨y5,q5⟩,⟨y6,q6⟩,⟨y7,q7⟩,⟨y8,q8⟩,⟨y9,q9⟩,⟨y10,q10⟩,y11,q11⟩:=z12at x11
 have HQ1:Hid _:=hQ1
 clear hQ1 x11 ht1 v0 v1 v2 v3 v4 v5 v6 e0 e1 e2 e3 e4 e5 HC HF
 go_wp2
 refine bodyPost_ret (v:=.agg #[.int .i64 c0,.int .i64 c1,.int .i64 c2,.int .i64 c3,.int .i64 c4,.slice ta' tn' tc',.slice pa' pn' pc',.slice la' ln' lc',.string sm',.int .i64 le',.string a',.string b']) (by simp [results,Tryz.results42,go_sem,y0,y1,y2,y3,y4,y5,y6,y7,y8,y9,y10,y11]) rfl ?_
 exact HQ.out _ _ _ HQ1.out (tn12 w1 (w.heap.size+2) _ _ _ _ _ _ _ _ _ _ _ _)
set_option maxRecDepth 20000 in
set_option maxHeartbeats 4000000 in
theorem l4Apply_unpin (wd now given births:Int) (ta pa la:Option Addr) (tn tc pn pc ln lc:Nat) (s nm text:ByteArray) (num:Int) (ra:Option Addr) (rn rc:Nat) (w:World) (V:List Nat) (Q:World->Ending->World->Prop) (Q':Ending->World->Prop) (hV:∀b∈V,b<w.heap.size)
 (hc:∀X,Below w.heap.size w X->w.heap.size+3<=X.heap.size->Calls Tryz.prog 87 #[.agg #[.int .i64 wd,.int .i64 now,.int .i64 given,.int .i64 births,.slice ta tn tc,.slice pa pn pc,.slice la ln lc],.string nm] X (Q X))
 (hf:∀X e w',Q X e w'->Tn V X w'/\∃(c0 c1 c2 c3 c4:Int) (ta':Option Addr) (tn' tc':Nat) (pa':Option Addr) (pn' pc':Nat) (la':Option Addr) (ln' lc':Nat) (sm':ByteArray) (le':Int) (a' b':ByteArray),e=.returned (.agg #[.int .i64 c0,.int .i64 c1,.int .i64 c2,.int .i64 c3,.int .i64 c4,.slice ta' tn' tc',.slice pa' pn' pc',.slice la' ln' lc',.string sm',.int .i64 le',.string a',.string b']))
 (hq:∀X e w' w'',Below w.heap.size w X->w.heap.size+3<=X.heap.size->Q X e w'->Tn [w.heap.size+2] w' w''->Q' e w''):
 Calls Tryz.prog 42 #[.agg #[.int .i64 wd,.int .i64 now,.int .i64 given,.int .i64 births,.slice ta tn tc,.slice pa pn pc,.slice la ln lc],.agg #[.int .i64 3,.string s,.string nm,.int .i64 num,.string text,.slice ra rn rc]] w Q':=by
 obtain ⟨W,hW⟩:∃W,W=((w.alloc (.cells #[.int .i64 wd,.int .i64 now,.int .i64 given,.int .i64 births,.slice ta tn tc,.slice pa pn pc,.slice la ln lc] 28)).alloc (.cells #[.int .i64 3,.string s,.string nm,.int .i64 num,.string text,.slice ra rn rc] 77)).alloc (.cells #[.int .i64 0,.int .i64 0,.int .i64 0,.int .i64 0,.int .i64 0,.slice none 0 0,.slice none 0 0,.slice none 0 0,.string ⟨#[]⟩,.int .i64 0,.string ⟨#[]⟩,.string ⟨#[]⟩] 30):=⟨_,rfl⟩
 have bW:Below w.heap.size w W:=by rw [hW];exact (((Below.refl _ _).alloc (Nat.le_refl _) _).alloc (by simp) _).alloc (by simp;omega) _
 have hzW:W.heap.size=w.heap.size+3:=by rw [hW];simp
 have x0:CellsAt W w.heap.size [.int .i64 wd,.int .i64 now,.int .i64 given,.int .i64 births,.slice ta tn tc,.slice pa pn pc,.slice la ln lc]:=by
  rw [hW]
  exact CellsAt.below (CellsAt.new w _ 28) (((Below.refl _ _).alloc (Nat.le_refl _) _).alloc (by simp) _)
 have xe:CellsAt W (w.heap.size+1) [.int .i64 3,.string s,.string nm,.int .i64 num,.string text,.slice ra rn rc]:=by
  have h1:=CellsAt.new (w.alloc (.cells #[.int .i64 wd,.int .i64 now,.int .i64 given,.int .i64 births,.slice ta tn tc,.slice pa pn pc,.slice la ln lc] 28)) [.int .i64 3,.string s,.string nm,.int .i64 num,.string text,.slice ra rn rc] 77
  rw [World.size_alloc] at h1
  rw [hW]
  exact CellsAt.below h1 ((Below.refl _ _).alloc (Nat.le_refl _) _)
 have x1:CellsAt W (w.heap.size+2) z12:=by
  have h1:=CellsAt.new ((w.alloc (.cells #[.int .i64 wd,.int .i64 now,.int .i64 given,.int .i64 births,.slice ta tn tc,.slice pa pn pc,.slice la ln lc] 28)).alloc (.cells #[.int .i64 3,.string s,.string nm,.int .i64 num,.string text,.slice ra rn rc] 77)) z12 30
  rw [World.size_alloc,World.size_alloc] at h1
  rw [hW]
  exact h1
 have HC:Hid _:=hc W bW (by omega)
 have HQ:Hid (∀e w' w'',Q W e w'->Tn [w.heap.size+2] w' w''->Q' e w''):=fun e w' w'' h1 h2=>hq W e w' w'' bW (by omega) h1 h2
 have HF:Hid (∀e w',Q W e w'->Tn V W w'/\∃(c0 c1 c2 c3 c4:Int) (ta':Option Addr) (tn' tc':Nat) (pa':Option Addr) (pn' pc':Nat) (la':Option Addr) (ln' lc':Nat) (sm':ByteArray) (le':Int) (a' b':ByteArray),e=.returned (.agg #[.int .i64 c0,.int .i64 c1,.int .i64 c2,.int .i64 c3,.int .i64 c4,.slice ta' tn' tc',.slice pa' pn' pc',.slice la' ln' lc',.string sm',.int .i64 le',.string a',.string b'])):=hf W
 have HX1:Hid (CellsAt W (w.heap.size+2) z12):=x1
 have HV:Hid (∀b∈V,b<w.heap.size):=hV
 have HW:Hid _:=hW
 obtain ⟨v0,_⟩:=x0 0 _ rfl
 obtain ⟨v1,_⟩:=x0 1 _ rfl
 obtain ⟨v2,_⟩:=x0 2 _ rfl
 obtain ⟨v3,_⟩:=x0 3 _ rfl
 obtain ⟨v4,_⟩:=x0 4 _ rfl
 obtain ⟨v5,_⟩:=x0 5 _ rfl
 obtain ⟨v6,_⟩:=x0 6 _ rfl
 obtain ⟨e0,_⟩:=xe 0 _ rfl
 obtain ⟨e1,_⟩:=xe 1 _ rfl
 obtain ⟨e2,_⟩:=xe 2 _ rfl
 obtain ⟨e3,_⟩:=xe 3 _ rfl
 obtain ⟨e4,_⟩:=xe 4 _ rfl
 obtain ⟨e5,_⟩:=xe 5 _ rfl
 clear hW x0 xe x1 hc hq hf hV bW
 go_enter Tryz.func42,Tryz.ntmps42
 go_upto_region 1 with fail
 rw [←HW.out]
 clear HW
 go_wp2_with fail
 refine Calls.mono HC.out ?_
 intro e w1 hQ1
 obtain ⟨ht1,c0,c1,c2,c3,c4,ta',tn',tc',pa',pn',pc',la',ln',lc',sm',le',a',b',rfl⟩:=HF.out e w1 hQ1
 have x11:CellsAt w1 (w.heap.size+2) z12:=CellsAt.same HX1.out (ht1.block _ HX1.out.lt (fun h=>by have:=HV.out _ h;omega))
 obtain ⟨⟨y0,q0⟩,⟨y1,q1⟩,⟨y2,q2⟩,⟨y3,q3⟩,⟨y4,q4⟩,⟨y5,q5⟩,⟨y6,q6⟩,⟨y7,q7⟩,⟨y8,q8⟩,⟨y9,q9⟩,⟨y10,q10⟩,y11,q11⟩:=z12at x11
 have HQ1:Hid _:=hQ1
 clear hQ1 x11 ht1 v0 v1 v2 v3 v4 v5 v6 e0 e1 e2 e3 e4 e5 HC HF
 go_wp2
 refine bodyPost_ret (v:=.agg #[.int .i64 c0,.int .i64 c1,.int .i64 c2,.int .i64 c3,.int .i64 c4,.slice ta' tn' tc',.slice pa' pn' pc',.slice la' ln' lc',.string sm',.int .i64 le',.string a',.string b']) (by simp [results,Tryz.results42,go_sem,y0,y1,y2,y3,y4,y5,y6,y7,y8,y9,y10,y11]) rfl ?_
 exact HQ.out _ _ _ HQ1.out (tn12 w1 (w.heap.size+2) _ _ _ _ _ _ _ _ _ _ _ _)
set_option maxRecDepth 20000 in
set_option maxHeartbeats 4000000 in
theorem l4Apply_give (wd now given births:Int) (ta pa la:Option Addr) (tn tc pn pc ln lc:Nat) (s nm text:ByteArray) (num:Int) (ra:Option Addr) (rn rc:Nat) (w:World) (V:List Nat) (Q:World->Ending->World->Prop) (Q':Ending->World->Prop) (hV:∀b∈V,b<w.heap.size)
 (hc:∀X,Below w.heap.size w X->w.heap.size+3<=X.heap.size->Calls Tryz.prog 89 #[.agg #[.int .i64 wd,.int .i64 now,.int .i64 given,.int .i64 births,.slice ta tn tc,.slice pa pn pc,.slice la ln lc],.int .i64 num] X (Q X))
 (hf:∀X e w',Q X e w'->Tn V X w'/\∃(c0 c1 c2 c3 c4:Int) (ta':Option Addr) (tn' tc':Nat) (pa':Option Addr) (pn' pc':Nat) (la':Option Addr) (ln' lc':Nat) (sm':ByteArray) (le':Int) (a' b':ByteArray),e=.returned (.agg #[.int .i64 c0,.int .i64 c1,.int .i64 c2,.int .i64 c3,.int .i64 c4,.slice ta' tn' tc',.slice pa' pn' pc',.slice la' ln' lc',.string sm',.int .i64 le',.string a',.string b']))
 (hq:∀X e w' w'',Below w.heap.size w X->w.heap.size+3<=X.heap.size->Q X e w'->Tn [w.heap.size+2] w' w''->Q' e w''):
 Calls Tryz.prog 42 #[.agg #[.int .i64 wd,.int .i64 now,.int .i64 given,.int .i64 births,.slice ta tn tc,.slice pa pn pc,.slice la ln lc],.agg #[.int .i64 5,.string s,.string nm,.int .i64 num,.string text,.slice ra rn rc]] w Q':=by
 obtain ⟨W,hW⟩:∃W,W=((w.alloc (.cells #[.int .i64 wd,.int .i64 now,.int .i64 given,.int .i64 births,.slice ta tn tc,.slice pa pn pc,.slice la ln lc] 28)).alloc (.cells #[.int .i64 5,.string s,.string nm,.int .i64 num,.string text,.slice ra rn rc] 77)).alloc (.cells #[.int .i64 0,.int .i64 0,.int .i64 0,.int .i64 0,.int .i64 0,.slice none 0 0,.slice none 0 0,.slice none 0 0,.string ⟨#[]⟩,.int .i64 0,.string ⟨#[]⟩,.string ⟨#[]⟩] 30):=⟨_,rfl⟩
 have bW:Below w.heap.size w W:=by rw [hW];exact (((Below.refl _ _).alloc (Nat.le_refl _) _).alloc (by simp) _).alloc (by simp;omega) _
 have hzW:W.heap.size=w.heap.size+3:=by rw [hW];simp
 have x0:CellsAt W w.heap.size [.int .i64 wd,.int .i64 now,.int .i64 given,.int .i64 births,.slice ta tn tc,.slice pa pn pc,.slice la ln lc]:=by
  rw [hW]
  exact CellsAt.below (CellsAt.new w _ 28) (((Below.refl _ _).alloc (Nat.le_refl _) _).alloc (by simp) _)
 have xe:CellsAt W (w.heap.size+1) [.int .i64 5,.string s,.string nm,.int .i64 num,.string text,.slice ra rn rc]:=by
  have h1:=CellsAt.new (w.alloc (.cells #[.int .i64 wd,.int .i64 now,.int .i64 given,.int .i64 births,.slice ta tn tc,.slice pa pn pc,.slice la ln lc] 28)) [.int .i64 5,.string s,.string nm,.int .i64 num,.string text,.slice ra rn rc] 77
  rw [World.size_alloc] at h1
  rw [hW]
  exact CellsAt.below h1 ((Below.refl _ _).alloc (Nat.le_refl _) _)
 have x1:CellsAt W (w.heap.size+2) z12:=by
  have h1:=CellsAt.new ((w.alloc (.cells #[.int .i64 wd,.int .i64 now,.int .i64 given,.int .i64 births,.slice ta tn tc,.slice pa pn pc,.slice la ln lc] 28)).alloc (.cells #[.int .i64 5,.string s,.string nm,.int .i64 num,.string text,.slice ra rn rc] 77)) z12 30
  rw [World.size_alloc,World.size_alloc] at h1
  rw [hW]
  exact h1
 have HC:Hid _:=hc W bW (by omega)
 have HQ:Hid (∀e w' w'',Q W e w'->Tn [w.heap.size+2] w' w''->Q' e w''):=fun e w' w'' h1 h2=>hq W e w' w'' bW (by omega) h1 h2
 have HF:Hid (∀e w',Q W e w'->Tn V W w'/\∃(c0 c1 c2 c3 c4:Int) (ta':Option Addr) (tn' tc':Nat) (pa':Option Addr) (pn' pc':Nat) (la':Option Addr) (ln' lc':Nat) (sm':ByteArray) (le':Int) (a' b':ByteArray),e=.returned (.agg #[.int .i64 c0,.int .i64 c1,.int .i64 c2,.int .i64 c3,.int .i64 c4,.slice ta' tn' tc',.slice pa' pn' pc',.slice la' ln' lc',.string sm',.int .i64 le',.string a',.string b'])):=hf W
 have HX1:Hid (CellsAt W (w.heap.size+2) z12):=x1
 have HV:Hid (∀b∈V,b<w.heap.size):=hV
 have HW:Hid _:=hW
 obtain ⟨v0,_⟩:=x0 0 _ rfl
 obtain ⟨v1,_⟩:=x0 1 _ rfl
 obtain ⟨v2,_⟩:=x0 2 _ rfl
 obtain ⟨v3,_⟩:=x0 3 _ rfl
 obtain ⟨v4,_⟩:=x0 4 _ rfl
 obtain ⟨v5,_⟩:=x0 5 _ rfl
 obtain ⟨v6,_⟩:=x0 6 _ rfl
 obtain ⟨e0,_⟩:=xe 0 _ rfl
 obtain ⟨e1,_⟩:=xe 1 _ rfl
 obtain ⟨e2,_⟩:=xe 2 _ rfl
 obtain ⟨e3,_⟩:=xe 3 _ rfl
 obtain ⟨e4,_⟩:=xe 4 _ rfl
 obtain ⟨e5,_⟩:=xe 5 _ rfl
 clear hW x0 xe x1 hc hq hf hV bW
 go_enter Tryz.func42,Tryz.ntmps42
 go_upto_region 1 with fail
 rw [←HW.out]
 clear HW
 go_wp2_with fail
 refine Calls.mono HC.out ?_
 intro e w1 hQ1
 obtain ⟨ht1,c0,c1,c2,c3,c4,ta',tn',tc',pa',pn',pc',la',ln',lc',sm',le',a',b',rfl⟩:=HF.out e w1 hQ1
 have x11:CellsAt w1 (w.heap.size+2) z12:=CellsAt.same HX1.out (ht1.block _ HX1.out.lt (fun h=>by have:=HV.out _ h;omega))
 obtain ⟨⟨y0,q0⟩,⟨y1,q1⟩,⟨y2,q2⟩,⟨y3,q3⟩,⟨y4,q4⟩,⟨y5,q5⟩,⟨y6,q6⟩,⟨y7,q7⟩,⟨y8,q8⟩,⟨y9,q9⟩,⟨y10,q10⟩,y11,q11⟩:=z12at x11
 have HQ1:Hid _:=hQ1
 clear hQ1 x11 ht1 v0 v1 v2 v3 v4 v5 v6 e0 e1 e2 e3 e4 e5 HC HF
 go_wp2
 refine bodyPost_ret (v:=.agg #[.int .i64 c0,.int .i64 c1,.int .i64 c2,.int .i64 c3,.int .i64 c4,.slice ta' tn' tc',.slice pa' pn' pc',.slice la' ln' lc',.string sm',.int .i64 le',.string a',.string b']) (by simp [results,Tryz.results42,go_sem,y0,y1,y2,y3,y4,y5,y6,y7,y8,y9,y10,y11]) rfl ?_
 exact HQ.out _ _ _ HQ1.out (tn12 w1 (w.heap.size+2) _ _ _ _ _ _ _ _ _ _ _ _)
set_option maxRecDepth 20000 in
set_option maxHeartbeats 4000000 in
theorem l4Apply_wait (wd now given births:Int) (ta pa la:Option Addr) (tn tc pn pc ln lc:Nat) (s nm text:ByteArray) (num:Int) (ra:Option Addr) (rn rc:Nat) (w:World) (V:List Nat) (Q:World->Ending->World->Prop) (Q':Ending->World->Prop) (hV:∀b∈V,b<w.heap.size)
 (hc:∀X,Below w.heap.size w X->w.heap.size+3<=X.heap.size->Calls Tryz.prog 90 #[.agg #[.int .i64 wd,.int .i64 now,.int .i64 given,.int .i64 births,.slice ta tn tc,.slice pa pn pc,.slice la ln lc],.int .i64 num] X (Q X))
 (hf:∀X e w',Q X e w'->Tn V X w'/\∃(c0 c1 c2 c3 c4:Int) (ta':Option Addr) (tn' tc':Nat) (pa':Option Addr) (pn' pc':Nat) (la':Option Addr) (ln' lc':Nat) (sm':ByteArray) (le':Int) (a' b':ByteArray),e=.returned (.agg #[.int .i64 c0,.int .i64 c1,.int .i64 c2,.int .i64 c3,.int .i64 c4,.slice ta' tn' tc',.slice pa' pn' pc',.slice la' ln' lc',.string sm',.int .i64 le',.string a',.string b']))
 (hq:∀X e w' w'',Below w.heap.size w X->w.heap.size+3<=X.heap.size->Q X e w'->Tn [w.heap.size+2] w' w''->Q' e w''):
 Calls Tryz.prog 42 #[.agg #[.int .i64 wd,.int .i64 now,.int .i64 given,.int .i64 births,.slice ta tn tc,.slice pa pn pc,.slice la ln lc],.agg #[.int .i64 6,.string s,.string nm,.int .i64 num,.string text,.slice ra rn rc]] w Q':=by
 obtain ⟨W,hW⟩:∃W,W=((w.alloc (.cells #[.int .i64 wd,.int .i64 now,.int .i64 given,.int .i64 births,.slice ta tn tc,.slice pa pn pc,.slice la ln lc] 28)).alloc (.cells #[.int .i64 6,.string s,.string nm,.int .i64 num,.string text,.slice ra rn rc] 77)).alloc (.cells #[.int .i64 0,.int .i64 0,.int .i64 0,.int .i64 0,.int .i64 0,.slice none 0 0,.slice none 0 0,.slice none 0 0,.string ⟨#[]⟩,.int .i64 0,.string ⟨#[]⟩,.string ⟨#[]⟩] 30):=⟨_,rfl⟩
 have bW:Below w.heap.size w W:=by rw [hW];exact (((Below.refl _ _).alloc (Nat.le_refl _) _).alloc (by simp) _).alloc (by simp;omega) _
 have hzW:W.heap.size=w.heap.size+3:=by rw [hW];simp
 have x0:CellsAt W w.heap.size [.int .i64 wd,.int .i64 now,.int .i64 given,.int .i64 births,.slice ta tn tc,.slice pa pn pc,.slice la ln lc]:=by
  rw [hW]
  exact CellsAt.below (CellsAt.new w _ 28) (((Below.refl _ _).alloc (Nat.le_refl _) _).alloc (by simp) _)
 have xe:CellsAt W (w.heap.size+1) [.int .i64 6,.string s,.string nm,.int .i64 num,.string text,.slice ra rn rc]:=by
  have h1:=CellsAt.new (w.alloc (.cells #[.int .i64 wd,.int .i64 now,.int .i64 given,.int .i64 births,.slice ta tn tc,.slice pa pn pc,.slice la ln lc] 28)) [.int .i64 6,.string s,.string nm,.int .i64 num,.string text,.slice ra rn rc] 77
  rw [World.size_alloc] at h1
  rw [hW]
  exact CellsAt.below h1 ((Below.refl _ _).alloc (Nat.le_refl _) _)
 have x1:CellsAt W (w.heap.size+2) z12:=by
  have h1:=CellsAt.new ((w.alloc (.cells #[.int .i64 wd,.int .i64 now,.int .i64 given,.int .i64 births,.slice ta tn tc,.slice pa pn pc,.slice la ln lc] 28)).alloc (.cells #[.int .i64 6,.string s,.string nm,.int .i64 num,.string text,.slice ra rn rc] 77)) z12 30
  rw [World.size_alloc,World.size_alloc] at h1
  rw [hW]
  exact h1
 have HC:Hid _:=hc W bW (by omega)
 have HQ:Hid (∀e w' w'',Q W e w'->Tn [w.heap.size+2] w' w''->Q' e w''):=fun e w' w'' h1 h2=>hq W e w' w'' bW (by omega) h1 h2
 have HF:Hid (∀e w',Q W e w'->Tn V W w'/\∃(c0 c1 c2 c3 c4:Int) (ta':Option Addr) (tn' tc':Nat) (pa':Option Addr) (pn' pc':Nat) (la':Option Addr) (ln' lc':Nat) (sm':ByteArray) (le':Int) (a' b':ByteArray),e=.returned (.agg #[.int .i64 c0,.int .i64 c1,.int .i64 c2,.int .i64 c3,.int .i64 c4,.slice ta' tn' tc',.slice pa' pn' pc',.slice la' ln' lc',.string sm',.int .i64 le',.string a',.string b'])):=hf W
 have HX1:Hid (CellsAt W (w.heap.size+2) z12):=x1
 have HV:Hid (∀b∈V,b<w.heap.size):=hV
 have HW:Hid _:=hW
 obtain ⟨v0,_⟩:=x0 0 _ rfl
 obtain ⟨v1,_⟩:=x0 1 _ rfl
 obtain ⟨v2,_⟩:=x0 2 _ rfl
 obtain ⟨v3,_⟩:=x0 3 _ rfl
 obtain ⟨v4,_⟩:=x0 4 _ rfl
 obtain ⟨v5,_⟩:=x0 5 _ rfl
 obtain ⟨v6,_⟩:=x0 6 _ rfl
 obtain ⟨e0,_⟩:=xe 0 _ rfl
 obtain ⟨e1,_⟩:=xe 1 _ rfl
 obtain ⟨e2,_⟩:=xe 2 _ rfl
 obtain ⟨e3,_⟩:=xe 3 _ rfl
 obtain ⟨e4,_⟩:=xe 4 _ rfl
 obtain ⟨e5,_⟩:=xe 5 _ rfl
 clear hW x0 xe x1 hc hq hf hV bW
 go_enter Tryz.func42,Tryz.ntmps42
 go_upto_region 1 with fail
 rw [←HW.out]
 clear HW
 go_wp2_with fail
 refine Calls.mono HC.out ?_
 intro e w1 hQ1
 obtain ⟨ht1,c0,c1,c2,c3,c4,ta',tn',tc',pa',pn',pc',la',ln',lc',sm',le',a',b',rfl⟩:=HF.out e w1 hQ1
 have x11:CellsAt w1 (w.heap.size+2) z12:=CellsAt.same HX1.out (ht1.block _ HX1.out.lt (fun h=>by have:=HV.out _ h;omega))
 obtain ⟨⟨y0,q0⟩,⟨y1,q1⟩,⟨y2,q2⟩,⟨y3,q3⟩,⟨y4,q4⟩,⟨y5,q5⟩,⟨y6,q6⟩,⟨y7,q7⟩,⟨y8,q8⟩,⟨y9,q9⟩,⟨y10,q10⟩,y11,q11⟩:=z12at x11
 have HQ1:Hid _:=hQ1
 clear hQ1 x11 ht1 v0 v1 v2 v3 v4 v5 v6 e0 e1 e2 e3 e4 e5 HC HF
 go_wp2
 refine bodyPost_ret (v:=.agg #[.int .i64 c0,.int .i64 c1,.int .i64 c2,.int .i64 c3,.int .i64 c4,.slice ta' tn' tc',.slice pa' pn' pc',.slice la' ln' lc',.string sm',.int .i64 le',.string a',.string b']) (by simp [results,Tryz.results42,go_sem,y0,y1,y2,y3,y4,y5,y6,y7,y8,y9,y10,y11]) rfl ?_
 exact HQ.out _ _ _ HQ1.out (tn12 w1 (w.heap.size+2) _ _ _ _ _ _ _ _ _ _ _ _)
set_option maxRecDepth 20000 in
set_option maxHeartbeats 4000000 in
theorem l4Apply_drop (wd now given births:Int) (ta pa la:Option Addr) (tn tc pn pc ln lc:Nat) (s nm text:ByteArray) (num:Int) (ra:Option Addr) (rn rc:Nat) (w:World) (V:List Nat) (Q:World->Ending->World->Prop) (Q':Ending->World->Prop) (hV:∀b∈V,b<w.heap.size)
 (hc:∀X,Below w.heap.size w X->w.heap.size+3<=X.heap.size->Calls Tryz.prog 91 #[.agg #[.int .i64 wd,.int .i64 now,.int .i64 given,.int .i64 births,.slice ta tn tc,.slice pa pn pc,.slice la ln lc],.string s] X (Q X))
 (hf:∀X e w',Q X e w'->Tn V X w'/\∃(c0 c1 c2 c3 c4:Int) (ta':Option Addr) (tn' tc':Nat) (pa':Option Addr) (pn' pc':Nat) (la':Option Addr) (ln' lc':Nat) (sm':ByteArray) (le':Int) (a' b':ByteArray),e=.returned (.agg #[.int .i64 c0,.int .i64 c1,.int .i64 c2,.int .i64 c3,.int .i64 c4,.slice ta' tn' tc',.slice pa' pn' pc',.slice la' ln' lc',.string sm',.int .i64 le',.string a',.string b']))
 (hq:∀X e w' w'',Below w.heap.size w X->w.heap.size+3<=X.heap.size->Q X e w'->Tn [w.heap.size+2] w' w''->Q' e w''):
 Calls Tryz.prog 42 #[.agg #[.int .i64 wd,.int .i64 now,.int .i64 given,.int .i64 births,.slice ta tn tc,.slice pa pn pc,.slice la ln lc],.agg #[.int .i64 7,.string s,.string nm,.int .i64 num,.string text,.slice ra rn rc]] w Q':=by
 obtain ⟨W,hW⟩:∃W,W=((w.alloc (.cells #[.int .i64 wd,.int .i64 now,.int .i64 given,.int .i64 births,.slice ta tn tc,.slice pa pn pc,.slice la ln lc] 28)).alloc (.cells #[.int .i64 7,.string s,.string nm,.int .i64 num,.string text,.slice ra rn rc] 77)).alloc (.cells #[.int .i64 0,.int .i64 0,.int .i64 0,.int .i64 0,.int .i64 0,.slice none 0 0,.slice none 0 0,.slice none 0 0,.string ⟨#[]⟩,.int .i64 0,.string ⟨#[]⟩,.string ⟨#[]⟩] 30):=⟨_,rfl⟩
 have bW:Below w.heap.size w W:=by rw [hW];exact (((Below.refl _ _).alloc (Nat.le_refl _) _).alloc (by simp) _).alloc (by simp;omega) _
 have hzW:W.heap.size=w.heap.size+3:=by rw [hW];simp
 have x0:CellsAt W w.heap.size [.int .i64 wd,.int .i64 now,.int .i64 given,.int .i64 births,.slice ta tn tc,.slice pa pn pc,.slice la ln lc]:=by
  rw [hW]
  exact CellsAt.below (CellsAt.new w _ 28) (((Below.refl _ _).alloc (Nat.le_refl _) _).alloc (by simp) _)
 have xe:CellsAt W (w.heap.size+1) [.int .i64 7,.string s,.string nm,.int .i64 num,.string text,.slice ra rn rc]:=by
  have h1:=CellsAt.new (w.alloc (.cells #[.int .i64 wd,.int .i64 now,.int .i64 given,.int .i64 births,.slice ta tn tc,.slice pa pn pc,.slice la ln lc] 28)) [.int .i64 7,.string s,.string nm,.int .i64 num,.string text,.slice ra rn rc] 77
  rw [World.size_alloc] at h1
  rw [hW]
  exact CellsAt.below h1 ((Below.refl _ _).alloc (Nat.le_refl _) _)
 have x1:CellsAt W (w.heap.size+2) z12:=by
  have h1:=CellsAt.new ((w.alloc (.cells #[.int .i64 wd,.int .i64 now,.int .i64 given,.int .i64 births,.slice ta tn tc,.slice pa pn pc,.slice la ln lc] 28)).alloc (.cells #[.int .i64 7,.string s,.string nm,.int .i64 num,.string text,.slice ra rn rc] 77)) z12 30
  rw [World.size_alloc,World.size_alloc] at h1
  rw [hW]
  exact h1
 have HC:Hid _:=hc W bW (by omega)
 have HQ:Hid (∀e w' w'',Q W e w'->Tn [w.heap.size+2] w' w''->Q' e w''):=fun e w' w'' h1 h2=>hq W e w' w'' bW (by omega) h1 h2
 have HF:Hid (∀e w',Q W e w'->Tn V W w'/\∃(c0 c1 c2 c3 c4:Int) (ta':Option Addr) (tn' tc':Nat) (pa':Option Addr) (pn' pc':Nat) (la':Option Addr) (ln' lc':Nat) (sm':ByteArray) (le':Int) (a' b':ByteArray),e=.returned (.agg #[.int .i64 c0,.int .i64 c1,.int .i64 c2,.int .i64 c3,.int .i64 c4,.slice ta' tn' tc',.slice pa' pn' pc',.slice la' ln' lc',.string sm',.int .i64 le',.string a',.string b'])):=hf W
 have HX1:Hid (CellsAt W (w.heap.size+2) z12):=x1
 have HV:Hid (∀b∈V,b<w.heap.size):=hV
 have HW:Hid _:=hW
 obtain ⟨v0,_⟩:=x0 0 _ rfl
 obtain ⟨v1,_⟩:=x0 1 _ rfl
 obtain ⟨v2,_⟩:=x0 2 _ rfl
 obtain ⟨v3,_⟩:=x0 3 _ rfl
 obtain ⟨v4,_⟩:=x0 4 _ rfl
 obtain ⟨v5,_⟩:=x0 5 _ rfl
 obtain ⟨v6,_⟩:=x0 6 _ rfl
 obtain ⟨e0,_⟩:=xe 0 _ rfl
 obtain ⟨e1,_⟩:=xe 1 _ rfl
 obtain ⟨e2,_⟩:=xe 2 _ rfl
 obtain ⟨e3,_⟩:=xe 3 _ rfl
 obtain ⟨e4,_⟩:=xe 4 _ rfl
 obtain ⟨e5,_⟩:=xe 5 _ rfl
 clear hW x0 xe x1 hc hq hf hV bW
 go_enter Tryz.func42,Tryz.ntmps42
 go_upto_region 1 with fail
 rw [←HW.out]
 clear HW
 go_wp2_with fail
 refine Calls.mono HC.out ?_
 intro e w1 hQ1
 obtain ⟨ht1,c0,c1,c2,c3,c4,ta',tn',tc',pa',pn',pc',la',ln',lc',sm',le',a',b',rfl⟩:=HF.out e w1 hQ1
 have x11:CellsAt w1 (w.heap.size+2) z12:=CellsAt.same HX1.out (ht1.block _ HX1.out.lt (fun h=>by have:=HV.out _ h;omega))
 obtain ⟨⟨y0,q0⟩,⟨y1,q1⟩,⟨y2,q2⟩,⟨y3,q3⟩,⟨y4,q4⟩,⟨y5,q5⟩,⟨y6,q6⟩,⟨y7,q7⟩,⟨y8,q8⟩,⟨y9,q9⟩,⟨y10,q10⟩,y11,q11⟩:=z12at x11
 have HQ1:Hid _:=hQ1
 clear hQ1 x11 ht1 v0 v1 v2 v3 v4 v5 v6 e0 e1 e2 e3 e4 e5 HC HF
 go_wp2
 refine bodyPost_ret (v:=.agg #[.int .i64 c0,.int .i64 c1,.int .i64 c2,.int .i64 c3,.int .i64 c4,.slice ta' tn' tc',.slice pa' pn' pc',.slice la' ln' lc',.string sm',.int .i64 le',.string a',.string b']) (by simp [results,Tryz.results42,go_sem,y0,y1,y2,y3,y4,y5,y6,y7,y8,y9,y10,y11]) rfl ?_
 exact HQ.out _ _ _ HQ1.out (tn12 w1 (w.heap.size+2) _ _ _ _ _ _ _ _ _ _ _ _)
set_option maxRecDepth 20000 in
set_option maxHeartbeats 4000000 in
theorem l4Apply_lease (wd now given births:Int) (ta pa la:Option Addr) (tn tc pn pc ln lc:Nat) (s nm text:ByteArray) (num:Int) (ra:Option Addr) (rn rc:Nat) (w:World) (fi:Int) (Q:World->Ending->World->Prop) (Q':Ending->World->Prop)
 (hfi:∀X,Below w.heap.size w X->Calls Tryz.prog 72 #[.agg #[.int .i64 wd,.int .i64 now,.int .i64 given,.int .i64 births,.slice ta tn tc,.slice pa pn pc,.slice la ln lc],.string s] X fun e w'=>e=.returned (.int .i64 fi)/\Below X.heap.size X w')
 (hcp:0<=fi->∀X,Below w.heap.size w X->w.heap.size+3<=X.heap.size->Calls Tryz.prog 43 #[.agg #[.int .i64 wd,.int .i64 now,.int .i64 given,.int .i64 births,.slice ta tn tc,.slice pa pn pc,.slice la ln lc]] X fun e w'=>(∃ta' tn' tc' pa' pn' pc' la' ln' lc',e=.returned (.agg #[.int .i64 wd,.int .i64 now,.int .i64 given,.int .i64 births,.slice ta' tn' tc',.slice pa' pn' pc',.slice la' ln' lc'])/\∀Y,Below w'.heap.size w' Y->Calls Tryz.prog 88 #[.agg #[.int .i64 wd,.int .i64 now,.int .i64 given,.int .i64 births,.slice ta' tn' tc',.slice pa' pn' pc',.slice la' ln' lc'],.string s,.int .i64 num] Y (Q X))/\Below X.heap.size X w')
 (hf:∀X e w',Below w.heap.size w X->Q X e w'->Below X.heap.size X w'/\∃(c0 c1 c2 c3 c4:Int) (ta':Option Addr) (tn' tc':Nat) (pa':Option Addr) (pn' pc':Nat) (la':Option Addr) (ln' lc':Nat) (sm':ByteArray) (le':Int) (a' b':ByteArray),e=.returned (.agg #[.int .i64 c0,.int .i64 c1,.int .i64 c2,.int .i64 c3,.int .i64 c4,.slice ta' tn' tc',.slice pa' pn' pc',.slice la' ln' lc',.string sm',.int .i64 le',.string a',.string b']))
 (hq0:fi<0->∀w',Below w.heap.size w w'->Q' (.returned (.agg (refC 2 ⟨#[]⟩ ⟨#[]⟩).toArray)) w')
 (hq:0<=fi->∀X e w' w'',Below w.heap.size w X->w.heap.size+3<=X.heap.size->Q X e w'->Tn [w.heap.size+2] w' w''->Q' e w''):
 Calls Tryz.prog 42 #[.agg #[.int .i64 wd,.int .i64 now,.int .i64 given,.int .i64 births,.slice ta tn tc,.slice pa pn pc,.slice la ln lc],.agg #[.int .i64 4,.string s,.string nm,.int .i64 num,.string text,.slice ra rn rc]] w Q':=by
 obtain ⟨W,hW⟩:∃W,W=((w.alloc (.cells #[.int .i64 wd,.int .i64 now,.int .i64 given,.int .i64 births,.slice ta tn tc,.slice pa pn pc,.slice la ln lc] 28)).alloc (.cells #[.int .i64 4,.string s,.string nm,.int .i64 num,.string text,.slice ra rn rc] 77)).alloc (.cells #[.int .i64 0,.int .i64 0,.int .i64 0,.int .i64 0,.int .i64 0,.slice none 0 0,.slice none 0 0,.slice none 0 0,.string ⟨#[]⟩,.int .i64 0,.string ⟨#[]⟩,.string ⟨#[]⟩] 30):=⟨_,rfl⟩
 have bW:Below w.heap.size w W:=by rw [hW];exact (((Below.refl _ _).alloc (Nat.le_refl _) _).alloc (by simp) _).alloc (by simp;omega) _
 have hzW:W.heap.size=w.heap.size+3:=by rw [hW];simp
 have x0:CellsAt W w.heap.size [.int .i64 wd,.int .i64 now,.int .i64 given,.int .i64 births,.slice ta tn tc,.slice pa pn pc,.slice la ln lc]:=by
  rw [hW]
  exact CellsAt.below (CellsAt.new w _ 28) (((Below.refl _ _).alloc (Nat.le_refl _) _).alloc (by simp) _)
 have xe:CellsAt W (w.heap.size+1) [.int .i64 4,.string s,.string nm,.int .i64 num,.string text,.slice ra rn rc]:=by
  have h1:=CellsAt.new (w.alloc (.cells #[.int .i64 wd,.int .i64 now,.int .i64 given,.int .i64 births,.slice ta tn tc,.slice pa pn pc,.slice la ln lc] 28)) [.int .i64 4,.string s,.string nm,.int .i64 num,.string text,.slice ra rn rc] 77
  rw [World.size_alloc] at h1
  rw [hW]
  exact CellsAt.below h1 ((Below.refl _ _).alloc (Nat.le_refl _) _)
 have x1:CellsAt W (w.heap.size+2) z12:=by
  have h1:=CellsAt.new ((w.alloc (.cells #[.int .i64 wd,.int .i64 now,.int .i64 given,.int .i64 births,.slice ta tn tc,.slice pa pn pc,.slice la ln lc] 28)).alloc (.cells #[.int .i64 4,.string s,.string nm,.int .i64 num,.string text,.slice ra rn rc] 77)) z12 30
  rw [World.size_alloc,World.size_alloc] at h1
  rw [hW]
  exact h1
 have HFi:Hid _:=hfi W bW
 have HX:Hid (∀X,Below W.heap.size W X->CellsAt X w.heap.size [.int .i64 wd,.int .i64 now,.int .i64 given,.int .i64 births,.slice ta tn tc,.slice pa pn pc,.slice la ln lc]/\CellsAt X (w.heap.size+1) [.int .i64 4,.string s,.string nm,.int .i64 num,.string text,.slice ra rn rc]/\CellsAt X (w.heap.size+2) z12/\Below w.heap.size w X):=fun X hX=>⟨CellsAt.below x0 hX,CellsAt.below xe hX,CellsAt.below (v:=.int .i64 0) x1 hX,bW.trans (hX.mono bW.size)⟩
 have HW:Hid _:=hW
 have HCp:Hid _:=hcp
 have HF:Hid _:=hf
 have HQ0:Hid _:=hq0
 have HQ:Hid _:=hq
 obtain ⟨v0,_⟩:=x0 0 _ rfl
 obtain ⟨v1,_⟩:=x0 1 _ rfl
 obtain ⟨v2,_⟩:=x0 2 _ rfl
 obtain ⟨v3,_⟩:=x0 3 _ rfl
 obtain ⟨v4,_⟩:=x0 4 _ rfl
 obtain ⟨v5,_⟩:=x0 5 _ rfl
 obtain ⟨v6,_⟩:=x0 6 _ rfl
 obtain ⟨e0,_⟩:=xe 0 _ rfl
 obtain ⟨e1,_⟩:=xe 1 _ rfl
 obtain ⟨e2,_⟩:=xe 2 _ rfl
 obtain ⟨e3,_⟩:=xe 3 _ rfl
 obtain ⟨e4,_⟩:=xe 4 _ rfl
 obtain ⟨e5,_⟩:=xe 5 _ rfl
 clear hW x0 xe x1 hfi hcp hf hq0 hq bW
 go_enter Tryz.func42,Tryz.ntmps42
 go_upto_region 1 with fail
 rw [←HW.out]
 clear HW
 go_wp2_with fail
 refine Calls.mono HFi.out ?_
 rintro e w1 ⟨rfl,hb1⟩
 have HB1:Hid (Below W.heap.size W w1):=hb1
 clear v0 v1 v2 v3 v4 v5 v6 e0 e1 e2 e3 e4 e5 HFi hb1
 obtain ⟨x0,xe,x1,hbw⟩:=HX.out w1 HB1.out
 by_cases hneg:fi<0
 ·obtain ⟨⟨y0,q0⟩,⟨y1,q1⟩,⟨y2,q2⟩,⟨y3,q3⟩,⟨y4,q4⟩,⟨y5,q5⟩,⟨y6,q6⟩,⟨y7,q7⟩,⟨y8,q8⟩,⟨y9,q9⟩,⟨y10,q10⟩,y11,q11⟩:=z12at x1
  have HBw:Hid (Below w.heap.size w w1):=hbw
  clear x0 xe x1 hbw HX
  go_wp2
  refine bodyPost_ret (v:=.agg (refC 2 ⟨#[]⟩ ⟨#[]⟩).toArray) (by simp [results,Tryz.results42,go_sem,y0,y1,y2,y3,y4,y5,y6,y7,y8,y9,y10,y11,refC]) rfl ?_
  exact HQ0.out hneg _ (HBw.out.trans (Tn.below (tn12 w1 (w.heap.size+2) _ _ _ _ _ _ _ _ _ _ _ _) HBw.out.size (by intro v hv;simp at hv;omega)))
 ·have h0:0<=fi:=by omega
  have D1:Below w1.heap.size w1 w1.drew:=(Below.refl _ _).drew
  have bd:Below W.heap.size W w1.drew:=HB1.out.trans (D1.mono HB1.out.size)
  have hbwd:Below w.heap.size w w1.drew:=(HX.out _ bd).2.2.2
  have hzd:w.heap.size+3<=w1.drew.heap.size:=by have:=bd.size;omega
  have HC1:Hid _:=HCp.out h0 w1.drew hbwd hzd
  have HBd:Hid (Below W.heap.size W w1.drew):=bd
  have P1:w1.drew.cell? ⟨w.heap.size,0,none⟩=some (.int .i64 wd)/\w1.drew.cell? ⟨w.heap.size,1,none⟩=some (.int .i64 now)/\w1.drew.cell? ⟨w.heap.size,2,none⟩=some (.int .i64 given)/\w1.drew.cell? ⟨w.heap.size,3,none⟩=some (.int .i64 births)/\w1.drew.cell? ⟨w.heap.size,4,none⟩=some (.slice ta tn tc)/\w1.drew.cell? ⟨w.heap.size,5,none⟩=some (.slice pa pn pc)/\w1.drew.cell? ⟨w.heap.size,6,none⟩=some (.slice la ln lc)/\w1.drew.cell? ⟨w.heap.size+1,1,none⟩=some (.string s)/\w1.drew.cell? ⟨w.heap.size+1,3,none⟩=some (.int .i64 num):=⟨(x0 0 _ rfl).1,(x0 1 _ rfl).1,(x0 2 _ rfl).1,(x0 3 _ rfl).1,(x0 4 _ rfl).1,(x0 5 _ rfl).1,(x0 6 _ rfl).1,(xe 1 _ rfl).1,(xe 3 _ rfl).1⟩
  have HS:Hid (∀X,Below W.heap.size W X->X.cell? ⟨w.heap.size,0,none⟩=some (.int .i64 wd)/\X.cell? ⟨w.heap.size,1,none⟩=some (.int .i64 now)/\X.cell? ⟨w.heap.size,2,none⟩=some (.int .i64 given)/\X.cell? ⟨w.heap.size,3,none⟩=some (.int .i64 births)/\X.cell? ⟨w.heap.size,4,none⟩=some (.slice ta tn tc)/\X.cell? ⟨w.heap.size,5,none⟩=some (.slice pa pn pc)/\X.cell? ⟨w.heap.size,6,none⟩=some (.slice la ln lc)/\X.cell? ⟨w.heap.size+1,1,none⟩=some (.string s)/\X.cell? ⟨w.heap.size+1,3,none⟩=some (.int .i64 num)):=fun X hX=>by
   obtain ⟨a0,a1,_⟩:=HX.out X hX
   exact ⟨(a0 0 _ rfl).1,(a0 1 _ rfl).1,(a0 2 _ rfl).1,(a0 3 _ rfl).1,(a0 4 _ rfl).1,(a0 5 _ rfl).1,(a0 6 _ rfl).1,(a1 1 _ rfl).1,(a1 3 _ rfl).1⟩
  have HSb:Hid (∀X Y,Below W.heap.size W X->Tn [w.heap.size+1+1] X Y->Y.cell? ⟨w.heap.size,0,none⟩=some (.int .i64 wd)/\Y.cell? ⟨w.heap.size,1,none⟩=some (.int .i64 now)/\Y.cell? ⟨w.heap.size,2,none⟩=some (.int .i64 given)/\Y.cell? ⟨w.heap.size,3,none⟩=some (.int .i64 births)/\Y.cell? ⟨w.heap.size,4,none⟩=some (.slice ta tn tc)/\Y.cell? ⟨w.heap.size,5,none⟩=some (.slice pa pn pc)/\Y.cell? ⟨w.heap.size,6,none⟩=some (.slice la ln lc)/\Y.cell? ⟨w.heap.size+1,1,none⟩=some (.string s)/\Y.cell? ⟨w.heap.size+1,3,none⟩=some (.int .i64 num)):=fun X Y hX hY=>by
   obtain ⟨z0,z1,_⟩:=HX.out X hX
   have a0:=CellsAt.same z0 (hY.block _ z0.lt (by simp;omega))
   have a1:=CellsAt.same z1 (hY.block _ z1.lt (by simp))
   exact ⟨(a0 0 _ rfl).1,(a0 1 _ rfl).1,(a0 2 _ rfl).1,(a0 3 _ rfl).1,(a0 4 _ rfl).1,(a0 5 _ rfl).1,(a0 6 _ rfl).1,(a1 1 _ rfl).1,(a1 3 _ rfl).1⟩
  have hneg':¬fi<0:=hneg
  clear x0 xe x1 hbw bd P1
  go_upto_region 11 with fail
  go_region_held3 (fun X=>X.cell? ⟨w.heap.size,0,none⟩=some (.int .i64 wd)/\X.cell? ⟨w.heap.size,1,none⟩=some (.int .i64 now)/\X.cell? ⟨w.heap.size,2,none⟩=some (.int .i64 given)/\X.cell? ⟨w.heap.size,3,none⟩=some (.int .i64 births)/\X.cell? ⟨w.heap.size,4,none⟩=some (.slice ta tn tc)/\X.cell? ⟨w.heap.size,5,none⟩=some (.slice pa pn pc)/\X.cell? ⟨w.heap.size,6,none⟩=some (.slice la ln lc)/\X.cell? ⟨w.heap.size+1,1,none⟩=some (.string s)/\X.cell? ⟨w.heap.size+1,3,none⟩=some (.int .i64 num))
   (first|with_reducible exact HS.out _ HBd.out|with_reducible exact HS.out _ B2|with_reducible exact HS.out _ B3|with_reducible exact HSb.out _ _ B3 (tn12 _ _ _ _ _ _ _ _ _ _ _ _ _ _))
   (first
     |(go_at_call 43;refine Calls.mono HC1.out ?_;rintro e w2 ⟨⟨ta',tn',tc',pa',pn',pc',la',ln',lc',rfl,hle⟩,hb2⟩;have B2:Below W.heap.size W w2:=HBd.out.trans (hb2.mono HBd.out.size);have HLe:Hid _:=hle w2 (Below.refl _ _);clear hle hb2)
     |(go_at_call 88;refine Calls.mono HLe.out ?_;intro e w3 hQ3;obtain ⟨hb3,c0,c1,c2,c3,c4,ua',un',uc',va',vn',vc',xa',xn',xc',sm',le',a',b',rfl⟩:=HF.out w1.drew e w3 hbwd hQ3;have B3:Below W.heap.size W w3:=HBd.out.trans (hb3.mono HBd.out.size);have HQ3:Hid _:=hQ3;obtain ⟨_,_,zz1,_⟩:=HX.out w3 B3;obtain ⟨⟨y0,q0⟩,⟨y1,q1⟩,⟨y2,q2⟩,⟨y3,q3⟩,⟨y4,q4⟩,⟨y5,q5⟩,⟨y6,q6⟩,⟨y7,q7⟩,⟨y8,q8⟩,⟨y9,q9⟩,⟨y10,q10⟩,y11,q11⟩:=z12at zz1;clear hQ3 hb3 zz1))
  clear HLe HC1 HS HSb HCp HF
  go_wp2
  refine bodyPost_ret (v:=.agg #[.int .i64 c0,.int .i64 c1,.int .i64 c2,.int .i64 c3,.int .i64 c4,.slice ua' un' uc',.slice va' vn' vc',.slice xa' xn' xc',.string sm',.int .i64 le',.string a',.string b']) (by simp [results,Tryz.results42,go_sem,y0,y1,y2,y3,y4,y5,y6,y7,y8,y9,y10,y11]) rfl ?_
  exact HQ.out h0 w1.drew _ _ _ hbwd hzd HQ3.out (tn12 w3 (w.heap.size+2) _ _ _ _ _ _ _ _ _ _ _ _)
end Go.Proofs.YtpekbmegopfhfaaGreatDoor
namespace Go.Proofs.YtpekbmegopfhfaaGreatDoor
open Go.ChangeShapes Go.WideShapes Go.ChangeAt Go.RowKit
theorem waitL_snoc {ls:List Ld} {k:Nat} {x:Ld} (n:Int) (hx:ls[k]?=some x):waitL (ls.take (k+1)) n=waitL (ls.take k) n++(if x.til<=n then [] else [x]):=by
 obtain ⟨hlt,rfl⟩:=List.getElem?_eq_some_iff.1 hx
 unfold waitL
 rw [List.take_succ_eq_append_getElem hlt,List.filter_append]
 by_cases h:ls[k].til<=n<;>simp [h]
def WaitTo (w w':World) (e:Ending) (wd now given births:Int) (T P:Value) (ls:List Ld) (ticks:Int):Prop:=
 Below w.heap.size w w'/\((1000000000<now+ticks/\e=.returned (.agg #[.int .i64 4,.int .i64 0,.int .i64 0,.int .i64 0,.int .i64 0,.slice none 0 0,.slice none 0 0,.slice none 0 0,.string ⟨#[]⟩,.int .i64 0,.string ⟨#[]⟩,.string ⟨#[]⟩]))∨
  (now+ticks<=1000000000/\∃g c,e=.returned (.agg #[.int .i64 0,.int .i64 wd,.int .i64 (now+ticks),.int .i64 given,.int .i64 births,T,P,.slice (some ⟨g,0,none⟩) (waitL ls (now+ticks)).length c,.string ⟨#[]⟩,.int .i64 0,.string ⟨#[]⟩,.string ⟨#[]⟩])/\w'.ownsRow w.heap.size 137 3 (.slice (some ⟨g,0,none⟩) (waitL ls (now+ticks)).length c) (waitL ls (now+ticks)).length (rowC lC (waitL ls (now+ticks)))))
set_option maxRecDepth 20000 in
set_option maxHeartbeats 4000000 in
theorem l4Wait_any (wd now given births:Int) (ta pa la:Option Addr) (tn tc pn pc lc:Nat) (ls:List Ld) (ticks:Int) (w:World) (hrow:LRow w w.heap.size la ls) (hl:ls.length<=1000) (hn0:0<=now) (hn1:now<=1000000000) (ht0:0<=ticks) (ht1:ticks<=1000000000):
 Calls Tryz.prog 90 #[.agg #[.int .i64 wd,.int .i64 now,.int .i64 given,.int .i64 births,.slice ta tn tc,.slice pa pn pc,.slice la ls.length lc],.int .i64 ticks] w fun e w'=>WaitTo w w' e wd now given births (.slice ta tn tc) (.slice pa pn pc) ls ticks:=by
 obtain ⟨W,hW⟩:∃W,W=(w.alloc (.cells #[.int .i64 wd,.int .i64 now,.int .i64 given,.int .i64 births,.slice ta tn tc,.slice pa pn pc,.slice la ls.length lc] 28)).alloc (.cells #[.int .i64 0,.int .i64 0,.int .i64 0,.int .i64 0,.int .i64 0,.slice none 0 0,.slice none 0 0,.slice none 0 0,.string ⟨#[]⟩,.int .i64 0,.string ⟨#[]⟩,.string ⟨#[]⟩] 30):=⟨_,rfl⟩
 have bW:Below w.heap.size w W:=by rw [hW];exact ((Below.refl _ _).alloc (Nat.le_refl _) _).alloc (by simp) _
 have hzW:W.heap.size=w.heap.size+2:=by rw [hW];simp
 have x0:CellsAt W w.heap.size [.int .i64 wd,.int .i64 now,.int .i64 given,.int .i64 births,.slice ta tn tc,.slice pa pn pc,.slice la ls.length lc]:=by
  have h1:=CellsAt.new w [.int .i64 wd,.int .i64 now,.int .i64 given,.int .i64 births,.slice ta tn tc,.slice pa pn pc,.slice la ls.length lc] 28
  rw [hW]
  exact CellsAt.below h1 ((Below.refl _ _).alloc (Nat.le_refl _) _)
 have x1:CellsAt W (w.heap.size+1) z12:=by
  have h1:=CellsAt.new (w.alloc (.cells #[.int .i64 wd,.int .i64 now,.int .i64 given,.int .i64 births,.slice ta tn tc,.slice pa pn pc,.slice la ls.length lc] 28)) z12 30
  rw [World.size_alloc] at h1
  rw [hW]
  exact h1
 have hwr:IntKind.i64.wrap (now+ticks)=now+ticks:=wrap_sum hn0 hn1 ht0 ht1
 have HW:Hid _:=hW
 by_cases hbig:1000000000<now+ticks
 ·obtain ⟨⟨y0,q0⟩,⟨y1,q1⟩,⟨y2,q2⟩,⟨y3,q3⟩,⟨y4,q4⟩,⟨y5,q5⟩,⟨y6,q6⟩,⟨y7,q7⟩,⟨y8,q8⟩,⟨y9,q9⟩,⟨y10,q10⟩,y11,q11⟩:=z12at x1
  obtain ⟨c1,_⟩:=x0 1 _ rfl
  have HB:Hid (Below w.heap.size w W):=bW
  have HBig:Hid (1000000000<now+ticks):=hbig
  clear hW x0 x1 hrow bW hzW
  go_enter Tryz.func90,Tryz.ntmps90
  go_upto_region 1 with fail
  rw [←HW.out]
  clear HW
  go_wp2
  refine bodyPost_ret (v:=.agg #[.int .i64 4,.int .i64 0,.int .i64 0,.int .i64 0,.int .i64 0,.slice none 0 0,.slice none 0 0,.slice none 0 0,.string ⟨#[]⟩,.int .i64 0,.string ⟨#[]⟩,.string ⟨#[]⟩]) (by simp [results,Tryz.results90,go_sem,y0,y1,y2,y3,y4,y5,y6,y7,y8,y9,y10,y11]) rfl ?_
  exact ⟨HB.out.trans (Tn.below (tn12 W (w.heap.size+1) _ _ _ _ _ _ _ _ _ _ _ _) HB.out.size (by intro v hv;simp at hv;omega)),.inl ⟨HBig.out,rfl⟩⟩
 ·obtain ⟨X,hX⟩:∃X,X=W.setCell ⟨w.heap.size,1,none⟩ (.int .i64 (now+ticks)):=⟨_,rfl⟩
  have tX:Tn [w.heap.size] W X:=by rw [hX];exact tn1 _ _ _ _
  have hzX:w.heap.size+2<=X.heap.size:=by have:=tX.size;omega
  have u0:CellsAt X w.heap.size [.int .i64 wd,.int .i64 (now+ticks),.int .i64 given,.int .i64 births,.slice ta tn tc,.slice pa pn pc,.slice la ls.length lc]:=by rw [hX];exact x0.set 1 _
  have u1:CellsAt X (w.heap.size+1) z12:=CellsAt.same x1 (tX.block _ (by omega) (by simp))
  have HX:Hid (∀Y,Below (w.heap.size+2) X Y->CellsAt Y w.heap.size [.int .i64 wd,.int .i64 (now+ticks),.int .i64 given,.int .i64 births,.slice ta tn tc,.slice pa pn pc,.slice la ls.length lc]/\CellsAt Y (w.heap.size+1) z12):=fun Y hY=>⟨CellsAt.same u0 (hY.block _ (by omega)),CellsAt.same u1 (hY.block _ (by omega))⟩
  have HXe:Hid _:=hX
  have HR:Hid (LRow w w.heap.size la ls):=hrow
  have HBX:Hid (Below w.heap.size w X):=bW.trans (tX.below bW.size (by simp))
  have HBig:Hid (now+ticks<=1000000000):=Int.not_lt.1 hbig
  have bA:Below X.heap.size X (X.alloc (.cells #[] 137)):=(Below.refl _ _).alloc (Nat.le_refl _) _
  have HOA:Hid ((X.alloc (.cells #[] 137)).ownsRow (w.heap.size+2) 137 3 (.slice (some ⟨X.heap.size,0,none⟩) 0 0) 0 []):=World.ownsRow_lit (base:=w.heap.size+2) (e:=137) (size:=3) X #[] 0 hzX (by unfold maxLen;omega) rfl
  have HBA:Hid (Below (w.heap.size+2) X (X.alloc (.cells #[] 137))):=bA.mono hzX
  obtain ⟨c1,f1⟩:=x0 1 _ rfl
  clear hW hX hzW x0 x1 u0 u1 hrow bW bA tX
  go_enter Tryz.func90,Tryz.ntmps90
  go_upto_region 1 with fail
  rw [←HW.out]
  clear HW
  go_upto_region 4 with fail
  rw [←HXe.out]
  clear HXe c1 f1
  go_wp2
  go_loopw [5,6] (fun v i wr=>∃(k g c:Nat),k<=ls.length/\i=.int .i64 k/\v=.slice (some ⟨g,0,none⟩) (waitL (ls.take k) (now+ticks)).length c/\Hid (wr.ownsRow (w.heap.size+2) 137 3 (.slice (some ⟨g,0,none⟩) (waitL (ls.take k) (now+ticks)).length c) (waitL (ls.take k) (now+ticks)).length (rowC lC (waitL (ls.take k) (now+ticks)))/\Below (w.heap.size+2) X wr)) (fun _ i _=>ls.length -(intOf i).toNat)
  case atStart=>exact ⟨0,X.heap.size,0,Nat.zero_le _,rfl,by simp [waitL],⟨by simpa [waitL,rowC] using HOA.out,HBA.out⟩⟩
  case round=>
   clear HOA HBA
   obtain ⟨k,g,c,hk,rfl,rfl,HI⟩:=hrel
   have hbr:Below w.heap.size w wr:=HBX.out.trans (HI.out.2.mono (by omega))
   have hzr:w.heap.size+2<=wr.heap.size:=Nat.le_trans hzX HI.out.2.size
   obtain ⟨v0,v1,v2,v3,v4,v5,v6,v7⟩:=sbox_of (HX.out _ HI.out.2).1
   by_cases hlt:k<ls.length
   ·obtain ⟨b',off,ha,hb,hc'⟩:=(LRow.below HR.out hbr).at hlt
    subst ha
    have HG:Hid (ls[k]?=some ls[k]):=List.getElem?_eq_getElem hlt
    obtain ⟨c0,c1,c2⟩:=hc' k _ HG.out
    have HSn:Hid _:=waitL_snoc (now+ticks) HG.out
    have hgl:(waitL (ls.take k) (now+ticks)).length<=1000:=by
     have:=List.length_filter_le (fun x:Ld=> !decide (x.til<=(now+ticks))) (ls.take k)
     unfold waitL
     rw [List.length_take] at this
     omega
    have hbl':b'<wr.heap.size:=by have:=hbr.size;omega
    have hkl:(k:Int)<ls.length:=by omega
    clear hc'
    generalize ls[k]=x at *
    generalize hGk:waitL (ls.take k) (now+ticks)=gk at *
    have HGk:Hid _:=hGk
    clear hGk
    by_cases hxn:x.til<=(now+ticks)
    ·have hq:decide ((now+ticks)<x.til)=false:=by simp;omega
     have HE:Hid (waitL (ls.take (k+1)) (now+ticks)=gk):=by show _=_;rw [HSn.out,if_pos hxn,List.append_nil]
     clear hxn
     have HBd:Hid (wr.drew.ownsRow (w.heap.size+2) 137 3 (.slice (some ⟨g,0,none⟩) gk.length c) gk.length (rowC lC gk)/\Below (w.heap.size+2) X wr.drew):=⟨own_below HI.out.1 ((Below.refl _ _).drew),HI.out.2.drew⟩
     clear HI
     go_upto_region 8 with fail
     go_region_with fail
     all_goals
      go_wp2
      exact ⟨⟨k+1,g,c,by omega,by go_num,by rw [HE.out],⟨by rw [HE.out];exact HBd.out.1,HBd.out.2⟩⟩,by simp [intOf];omega⟩
    ·have hq:decide ((now+ticks)<x.til)=true:=by simp;omega
     have HE:Hid (waitL (ls.take (k+1)) (now+ticks)=gk++[x]):=by show _=_;rw [HSn.out,if_neg hxn]
     clear hxn
     obtain ⟨g8,cap8,w8,hr8,ho8,hg8,hk8⟩:=lpush wr.drew (w.heap.size+2) _ gk (own_below HI.out.1 ((Below.refl _ _).drew)) x (by omega) hzr 26
     have b8:Below (w.heap.size+2) wr.drew w8:=(Below.refl _ _).grown hg8 hzr (fun q e=>(own_lt HI.out.1 e).1)
     have H8:Hid (w8.ownsRow (w.heap.size+2) 137 3 (.slice (some ⟨g8,0,none⟩) (gk.length+1) cap8) (gk++[x]).length (rowC lC (gk++[x]))/\Below (w.heap.size+2) X w8):=⟨ho8,HI.out.2.drew.trans b8⟩
     clear ho8 hg8 hk8 b8 HI
     go_upto_region 8 with fail
     go_region_with fail
     all_goals
      go_wp2_with (at_builtin;first|(refine wpList_append_run rfl _ _ 26 26 rfl rfl rfl hr8 ?_))
      go_wp2
      exact ⟨⟨k+1,g8,cap8,by omega,by go_num,by rw [HE.out,List.length_append];rfl,⟨by rw [HE.out,List.length_append];exact List.length_append▸H8.out.1,H8.out.2⟩⟩,by simp [intOf];omega⟩
   ·obtain rfl:k=ls.length:=by omega
    have hO:=HI.out.1
    rw [List.take_of_length_le (Nat.le_refl _)] at hO ⊢
    have HO:Hid (wr.ownsRow (w.heap.size+2) 137 3 (.slice (some ⟨g,0,none⟩) (waitL ls (now+ticks)).length c) (waitL ls (now+ticks)).length (rowC lC (waitL ls (now+ticks)))):=hO
    have HBr:Hid (Below w.heap.size w wr):=hbr
    obtain ⟨⟨y0,q0⟩,⟨y1,q1⟩,⟨y2,q2⟩,⟨y3,q3⟩,⟨y4,q4⟩,⟨y5,q5⟩,⟨y6,q6⟩,⟨y7,q7⟩,⟨y8,q8⟩,⟨y9,q9⟩,⟨y10,q10⟩,y11,q11⟩:=z12at (HX.out _ HI.out.2).2
    have f6:=((HX.out _ HI.out.2).1 6 _ rfl).2
    clear hO hbr HI
    go_wp2
    refine bodyPost_ret (v:=.agg #[.int .i64 0,.int .i64 wd,.int .i64 (now+ticks),.int .i64 given,.int .i64 births,.slice ta tn tc,.slice pa pn pc,.slice (some ⟨g,0,none⟩) (waitL ls (now+ticks)).length c,.string ⟨#[]⟩,.int .i64 0,.string ⟨#[]⟩,.string ⟨#[]⟩]) (by simp [results,Tryz.results90,go_sem,y0,y1,y2,y3,y4,y5,y6,y7,y8,y9,y10,y11]) rfl ?_
    have T':=(Tn.set (V:=[w.heap.size,w.heap.size+1]) wr w.heap.size 6 (.slice (some ⟨g,0,none⟩) (waitL ls (now+ticks)).length c) (by simp)).trans (Tn.mono (tn12 (wr.setCell ⟨w.heap.size,6,none⟩ (.slice (some ⟨g,0,none⟩) (waitL ls (now+ticks)).length c)) (w.heap.size+1) (.int .i64 0) (.int .i64 wd) (.int .i64 (now+ticks)) (.int .i64 given) (.int .i64 births) (.slice ta tn tc) (.slice pa pn pc) (.slice (some ⟨g,0,none⟩) (waitL ls (now+ticks)).length c) (.string ⟨#[]⟩) (.int .i64 0) (.string ⟨#[]⟩) (.string ⟨#[]⟩)) (by simp))
    exact ⟨HBr.out.trans (T'.below HBr.out.size (by intro v hv;simp at hv;omega)),.inr ⟨HBig.out,g,c,rfl,(own_same HO.out (fun q hq=>T'.block q (own_lt HO.out hq).2 (by have:=(own_lt HO.out hq).1;simp;omega))).mono (by omega)⟩⟩
end Go.Proofs.YtpekbmegopfhfaaGreatDoor
