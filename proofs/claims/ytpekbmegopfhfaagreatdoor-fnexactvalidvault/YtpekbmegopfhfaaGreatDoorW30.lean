import Derived.Test.YtpekbmegopfhfaaGreatDoorW22
import Derived.Test.YtpekbmegopfhfaaGreatDoorW24
import Derived.Test.YtpekbmegopfhfaaGreatDoorW23
import Derived.Test.YtpekbmegopfhfaaGreatDoorW02
namespace Go.Proofs.YtpekbmegopfhfaaGreatDoor
open Go.ChangeShapes Go.WideShapes Go.ChangeAt Go.RowKit
theorem sFormE (k:Int) (sum name:ByteArray) (n:Int) (t:ByteArray) (ad:Option Addr) (cap:Nat) (ss:List ByteArray) (wd:Int) (w:World)
 (hrow:SRow w w.heap.size ad ss) (hl:ss.length<=1048576) (ht:t.size<=maxLen) (hn:name.size<=maxLen):
 Calls Tryz.prog 84 #[.agg (entV k sum name n t ad ss.length cap),.int .i64 wd] w fun e w'=>e=.returned (.string (entTxt k sum name n t ss wd))/\Below w.heap.size w w':=by
 cases hok:okE k sum name n t ss wd with
 |true=>
  rw [show entTxt k sum name n t ss wd=⟨(entB k.toNat sum name n t ss).toArray⟩ from by unfold entTxt;rw [if_pos hok]]
  unfold okE at hok
  simp only [Bool.and_eq_true,decide_eq_true_eq] at hok
  obtain ⟨m,rfl⟩:∃m:Nat,k=m:=⟨k.toNat,by omega⟩
  rw [Int.toNat_natCast] at hok ⊢
  exact sForm_ent m sum name n t ad cap ss wd w (by omega) (by omega) hrow hl ht hok.2
 |false=>
  rw [show entTxt k sum name n t ss wd=ByteArray.empty from by unfold entTxt;rw [if_neg (by rw [hok];decide)]]
  have hb0:Below w.heap.size w (w.alloc (.cells (entV k sum name n t ad ss.length cap) 77)):=(Below.refl _ _).alloc (Nat.le_refl _) _
  have hcall:=sOkE k sum name n t ad cap ss wd _ (hrow.below' hb0) hl ht hn
  rw [hok] at hcall
  clear hok
  go_enter Tryz.func84,Tryz.ntmps84
  go_wp2_with fail
  refine hcall.mono ?_
  rintro e w1 ⟨rfl,hb1⟩
  go_wp2
  go_ret
  exact ⟨rfl,hb0.trans (hb1.mono (by simp))⟩
end Go.Proofs.YtpekbmegopfhfaaGreatDoor
namespace Go.Proofs.YtpekbmegopfhfaaGreatDoor
open Go.ChangeShapes Go.WideShapes Go.ChangeAt Go.RowKit
def inK (k:Int):Bool:=decide (1<=k/\k<=7)
def uName (k:Int):Bool:=inK k&&kName k.toNat
def uSum (k:Int):Bool:=inK k&&kSum k.toNat
def uThing (k:Int):Bool:=inK k&&kThing k.toNat
def uMost (k:Int):Int:=if inK k=true then kMost k.toNat else 0
theorem partsOf_any (k:Int) (w:World) (hT:Tab w):
 Calls Tryz.prog 160 #[.int .i64 k] w fun e w'=>e=.returned (.tuple #[.agg #[.bool (uName k),.bool (uSum k),.bool (uThing k),.int .i64 (uMost k)],.bool (inK k)])/\Below w.heap.size w w':=by
 by_cases hk:1<=k/\k<=7
 ·obtain ⟨m,rfl⟩:∃m:Nat,k=m:=⟨k.toNat,by omega⟩
  have hi:inK (m:Int)=true:=decide_eq_true hk
  rw [show uName (m:Int)=kName m by simp [uName,hi],show uSum (m:Int)=kSum m by simp [uSum,hi],show uThing (m:Int)=kThing m by simp [uThing,hi],show uMost (m:Int)=kMost m by simp [uMost,hi],hi]
  exact partsOf_yes m w hT (by omega) (by omega)
 ·have hi:inK k=false:=decide_eq_false hk
  rw [show uName k=false by simp [uName,hi],show uSum k=false by simp [uSum,hi],show uThing k=false by simp [uThing,hi],show uMost k=0 by simp [uMost,hi],hi]
  exact partsOf_no k w hk
theorem isWidthE (n:Int) (w:World):
 Calls Tryz.prog 44 #[.int .i64 n] w fun e w'=>e=.returned (.bool (decide (1<=n/\n<=8)))/\w'=w:=by
 by_cases h1:1<=n
 ·by_cases h2:n<=8
  ·go_enter Tryz.func44,Tryz.ntmps44
   go_wp2
   go_ret
   exact ⟨ret_b (by simp [h1,h2]),rfl⟩
  ·have h2':decide (n<=8)=false:=by simpa using h2
   go_enter Tryz.func44,Tryz.ntmps44
   go_wp2
   go_ret
   exact ⟨rfl,rfl⟩
 ·have h1':decide (1<=n)=false:=by simpa using h1
  go_enter Tryz.func44,Tryz.ntmps44
  go_wp2
  go_ret
  exact ⟨rfl,rfl⟩
def e_b0 (wd:Int):Bool:= !decide (1<=wd/\wd<=8)
def e_t1 (s:ByteArray) (wd:Int):ByteArray×ByteArray×Bool:=takeR s (e_b0 wd) (1:Nat)
def e_k (s:ByteArray) (wd:Int):Int:=numB (e_t1 s wd).1.data.toList
def e_b2 (s:ByteArray) (wd:Int):Bool:=(e_t1 s wd).2.2|| !inK (e_k s wd)
def e_t2 (s:ByteArray) (wd:Int):ByteArray×ByteArray×Bool:=takeR (e_t1 s wd).2.1 (e_b2 s wd) (4:Nat)
def e_n (s:ByteArray) (wd:Int):Int:=numB (e_t2 s wd).1.data.toList
def e_t3 (s:ByteArray) (wd:Int):ByteArray×ByteArray×Bool:=takeR (e_t2 s wd).2.1 (e_t2 s wd).2.2 (1:Nat)
def e_m (s:ByteArray) (wd:Int):Int:=numB (e_t3 s wd).1.data.toList
def e_t4 (s:ByteArray) (wd:Int):ByteArray×ByteArray×Bool:=takeR (e_t3 s wd).2.1 (e_t3 s wd).2.2 (e_m s wd)
def e_t5 (s:ByteArray) (wd:Int):ByteArray×ByteArray×Bool:=if uSum (e_k s wd)=true then takeR (e_t4 s wd).2.1 (e_t4 s wd).2.2 wd else (⟨#[]⟩,(e_t4 s wd).2)
def e_th (s:ByteArray) (wd:Int):ByteArray×List ByteArray:=if uThing (e_k s wd)=true then ((rd (thTk (e_t5 s wd).2.1 (e_t5 s wd).2.2) wd).1,(rd (thTk (e_t5 s wd).2.1 (e_t5 s wd).2.2) wd).2.1) else (⟨#[]⟩,[])
def e_t6 (s:ByteArray) (wd:Int):ByteArray×Bool:=if uThing (e_k s wd)=true then (thRest (e_t5 s wd).2.1 (e_t5 s wd).2.2,thBad (e_t5 s wd).2.1 (e_t5 s wd).2.2 wd) else (e_t5 s wd).2
def e_b8 (s:ByteArray) (wd:Int):Bool:=(e_t6 s wd).2|| !decide ((e_t6 s wd).1.size=0)
def e_ok (s:ByteArray) (wd:Int):Bool:=okE (e_k s wd) (e_t5 s wd).1 (e_t4 s wd).1 (e_n s wd) (e_th s wd).1 (e_th s wd).2 wd
def e_b9 (s:ByteArray) (wd:Int):Bool:=e_b8 s wd|| !e_ok s wd
theorem takeR_bad {rest:ByteArray} {bad:Bool} {n:Int} (h:(takeR rest bad n).2.2=false):bad=false:=by
 unfold takeR at h
 cases bad
 ·rfl
 ·simp at h
theorem rd_size (s:ByteArray) (wd:Int):(rd s wd).1.size<=s.size:=by
 unfold rd
 split
 ·split
  ·exact Nat.zero_le _
  ·unfold rdN txtI
   split
   ·simp;omega
   ·exact Nat.zero_le _
 ·exact Nat.zero_le _
theorem takeR_size (rest:ByteArray) (bad:Bool) (n:Int):(takeR rest bad n).1.size<=rest.size/\(takeR rest bad n).2.1.size<=rest.size:=by
 unfold takeR
 split
 ·exact ⟨Nat.zero_le _,Nat.le_refl _⟩
 ·split
  ·exact ⟨Nat.zero_le _,Nat.le_refl _⟩
  ·simp;omega
structure EW (w W:World) (b:Nat) (rest:ByteArray) (kind:Int) (bad:Bool):Prop where
 rs:RSt W b rest kind bad
 env:Env W
 gr:w.grownBy W (some b)
 res:CellsAt W w.heap.size [.int .i64 0,.string ⟨#[]⟩,.string ⟨#[]⟩,.int .i64 0,.string ⟨#[]⟩,.slice none 0 0]
def Above (b:Nat):Prop:=∀g∈[0,1,2,3,6,7,5,4],g<b
theorem EW.step {w W W':World} {b:Nat} {rest rest':ByteArray} {kind kind':Int} {bad bad':Bool} (h:EW w W b rest kind bad) (ha:Above b) (hb:b<w.heap.size) (hr:RSt W' b rest' kind' bad') (hg:W.grownBy W' (some b)):EW w W' b rest' kind' bad':=
 ⟨hr,h.env.but hg ha,h.gr.trans hg,h.res.far hg hb⟩
theorem EW.below {w W W':World} {b:Nat} {rest:ByteArray} {kind:Int} {bad:Bool} (h:EW w W b rest kind bad) (hb:Below W.heap.size W W'):EW w W' b rest kind bad:=
 ⟨h.rs.below hb,h.env.below hb,h.gr.trans (grown_below _ hb),h.res.below hb⟩
theorem EW.set {w W:World} {b:Nat} {rest:ByteArray} {kind:Int} {bad:Bool} (h:EW w W b rest kind bad) (ha:Above b) (hb:b<w.heap.size) (B j:Nat) (v:Value) (hB:w.heap.size<B):EW w (W.setCell ⟨B,j,none⟩ v) b rest kind bad:=
 ⟨h.rs.far (rd_grown W B j v) (by omega),h.env.but (rd_grown W B j v) (fun g hg=>by have:=ha g hg;omega),h.gr.andThen (rd_grown W B j v) (fun j' e=>by cases e;exact .inl (by omega)),h.res.far' (rd_grown W B j v) (by omega)⟩
theorem e_m_nonneg (s:ByteArray) (wd:Int):0<=e_m s wd:=(numB_range _).1
theorem e_t4_bad {s:ByteArray} {wd:Int} (h:(e_t4 s wd).2.2=false):0<=wd:=by
 have h3:=takeR_bad h
 have h2:=takeR_bad h3
 have h1:=takeR_bad h2
 unfold e_b2 at h1
 have h0:=takeR_bad (Bool.or_eq_false_iff.1 h1).1
 unfold e_b0 at h0
 simp at h0
 omega
theorem e_sizes {s:ByteArray} {wd:Int} (hs:s.size<=1048576):(e_t4 s wd).1.size<=1048576/\(e_t5 s wd).2.1.size<=1048576/\(e_th s wd).1.size<=1048576/\(e_t6 s wd).1.size<=1048576:=by
 have h1:=takeR_size s (e_b0 wd) (1:Nat)
 have h2:=takeR_size (e_t1 s wd).2.1 (e_b2 s wd) (4:Nat)
 have h3:=takeR_size (e_t2 s wd).2.1 (e_t2 s wd).2.2 (1:Nat)
 have h4:=takeR_size (e_t3 s wd).2.1 (e_t3 s wd).2.2 (e_m s wd)
 have h5:=takeR_size (e_t4 s wd).2.1 (e_t4 s wd).2.2 wd
 have k1:(e_t1 s wd).2.1.size<=1048576:=Nat.le_trans h1.2 hs
 have k2:(e_t2 s wd).2.1.size<=1048576:=Nat.le_trans h2.2 k1
 have k3:(e_t3 s wd).2.1.size<=1048576:=Nat.le_trans h3.2 k2
 have k4:(e_t4 s wd).2.1.size<=1048576:=Nat.le_trans h4.2 k3
 have k4':(e_t4 s wd).1.size<=1048576:=Nat.le_trans h4.1 k3
 have k5:(e_t5 s wd).2.1.size<=1048576:=by
  unfold e_t5
  split
  ·exact Nat.le_trans h5.2 k4
  ·exact k4
 refine ⟨k4',k5,?_,?_⟩
 ·unfold e_th
  split
  ·exact Nat.le_trans (rd_size _ _) (thTk_le k5)
  ·exact Nat.zero_le _
 ·unfold e_t6
  split
  ·exact Nat.le_trans (takeR_size _ _ _).2 k5
  ·exact k5
theorem e_th_len (s:ByteArray) (wd:Int):(e_th s wd).2.length<=255:=by
 unfold e_th
 split
 ·exact rd_le _ _
 ·exact Nat.zero_le _
theorem EW.lt {w W:World} {b:Nat} {rest:ByteArray} {kind:Int} {bad:Bool} (h:EW w W b rest kind bad):w.heap.size<W.heap.size:=h.res.lt
end Go.Proofs.YtpekbmegopfhfaaGreatDoor
namespace Go.Proofs.YtpekbmegopfhfaaGreatDoor
open Go.ChangeShapes Go.WideShapes Go.ChangeAt Go.RowKit
set_option maxRecDepth 20000 in
set_option maxHeartbeats 8000000 in
theorem entry_any (b:Nat) (s:ByteArray) (wd:Int) (w:World) (h:RSt w b s 0 false) (he:Env w) (ha:Above b) (hs:s.size<=1048576):
 Calls Tryz.prog 136 #[.pointer (some ⟨b,0,none⟩),.int .i64 wd] w fun e w'=>∃v,e=.returned (.agg #[.int .i64 (e_k s wd),.string (e_t5 s wd).1,.string (e_t4 s wd).1,.int .i64 (e_n s wd),.string (e_th s wd).1,v])/\
  w'.ownsRow w.heap.size 9 1 v (e_th s wd).2.length ((e_th s wd).2.map Value.string)/\RSt w' b (e_t6 s wd).1 (e_k s wd) (e_b9 s wd)/\w.grownBy w' (some b):=by
 have hbl:=h.lt
 have HA:Hid _:=ha
 obtain ⟨W,hW⟩:∃W,W=w.alloc (.cells #[.int .i64 0,.string ⟨#[]⟩,.string ⟨#[]⟩,.int .i64 0,.string ⟨#[]⟩,.slice none 0 0] 77):=⟨_,rfl⟩
 have hwW:Below w.heap.size w W:=by rw [hW];exact (Below.refl _ _).alloc (Nat.le_refl _) _
 have E0:Hid (EW w W b s 0 false):=⟨h.below hwW,he.below hwW,grown_below _ hwW,by rw [hW];exact CellsAt.new w _ _⟩
 have HW:Hid _:=hW
 clear hW h he ha hwW
 obtain ⟨gt,gv,hg⟩:=E0.out.env.er 0 (by simp)
 go_enter Tryz.func136,Tryz.ntmps136
 go_upto_region 1 with fail
 rw [←HW.out]
 clear HW
 have hwd:decide (1<=wd/\wd<=8)= !e_b0 wd:=by unfold e_b0;simp
 go_upto_if 10 with (go_at_call 44;refine (isWidthE wd _).mono ?_;rintro e w' ⟨rfl,hw'⟩;rw [hw'];clear hw' w')
 go_cut [] (fun wx=>Hid (EW w wx b s 0 (e_b0 wd)))
 case first=>
  cases hb0:e_b0 wd with
  |true=>
   go_wp2_with fail
   refine (fail_any b _ _ _ gt gv W E0.out.rs).mono ?_
   rintro e w1 ⟨rfl,h1,g1⟩
   go_wp2_with fail
   go_meet
   rw [hb0]
   exact E0.out.step HA.out hbl h1 g1
  |false=>
   go_wp2_with fail
   go_meet
   rw [hb0]
   exact E0.out
 case rest=>
 revert wc
 intro w1 E1
 clear E0 hg hwd
 obtain ⟨st,sv,hg⟩:=E1.out.env.er 6 (by simp)
 go_wp2_with fail
 refine (number_any b s 0 (e_b0 wd) 1 st sv w1 E1.out.rs (by omega) hg).mono ?_
 rintro e w2 ⟨rfl,h2,g2⟩
 have E2:Hid (EW w w2 b (e_t1 s wd).2.1 0 (e_t1 s wd).2.2):=E1.out.step HA.out hbl h2 g2
 rw [show numB (takeR s (e_b0 wd) (1:Nat)).1.data.toList=e_k s wd from rfl]
 obtain ⟨W3,hW3⟩:∃W3,W3=w2.setCell ⟨b,1,none⟩ (.int .i64 (e_k s wd)):=⟨_,rfl⟩
 have E3:Hid (EW w W3 b (e_t1 s wd).2.1 (e_k s wd) (e_t1 s wd).2.2):=by
  rw [hW3]
  exact E2.out.step HA.out hbl (E2.out.rs.setKind _) (rd_grown _ _ _ _)
 obtain ⟨er2,_,x0,x1,x2,f0,f1,f2⟩:=E2.out.rs
 have HW3:Hid _:=hW3
 clear hW3 h2 g2 hg E1
 go_upto_region 4 with fail
 rw [←HW3.out]
 clear HW3 x0 x1 x2 f0 f1 f2 E2
 obtain ⟨er3,_,x0,x1,x2,f0,f1,f2⟩:=E3.out.rs
 go_wp2_with fail
 refine (partsOf_any (e_k s wd) W3 E3.out.env.tab).mono ?_
 rintro e w4 ⟨rfl,hb4⟩
 have E4:Hid (EW w w4 b (e_t1 s wd).2.1 (e_k s wd) (e_t1 s wd).2.2):=E3.out.below hb4
 obtain ⟨W5,hW5⟩:∃W5,W5=w4.alloc (.cells #[.bool (uName (e_k s wd)),.bool (uSum (e_k s wd)),.bool (uThing (e_k s wd)),.int .i64 (uMost (e_k s wd))] 211):=⟨_,rfl⟩
 have h45:Below w4.heap.size w4 W5:=by rw [hW5];exact (Below.refl _ _).alloc (Nat.le_refl _) _
 have E5:Hid (EW w W5 b (e_t1 s wd).2.1 (e_k s wd) (e_t1 s wd).2.2):=E4.out.below h45
 obtain ⟨U,hU⟩:∃U,U=w4.heap.size:=⟨_,rfl⟩
 have U5:Hid (CellsAt W5 U [.bool (uName (e_k s wd)),.bool (uSum (e_k s wd)),.bool (uThing (e_k s wd)),.int .i64 (uMost (e_k s wd))]):=by rw [hW5,hU];exact CellsAt.new w4 _ _
 have hUw:w.heap.size<U:=by rw [hU];exact E4.out.lt
 have HW5:Hid _:=hW5
 have HU:Hid _:=hU
 clear hW5 hU h45 hb4 E3 E4 x0 x1 x2 f0 f1 f2
 obtain ⟨gt,gv,hg⟩:=E5.out.env.er 1 (by simp)
 go_upto_region 5 with fail
 rw [←HW5.out,←HU.out]
 clear HW5 HU
 go_upto_if 28 with fail
 go_cut [6] (fun _ wx=>Hid (EW w wx b (e_t1 s wd).2.1 (e_k s wd) (e_b2 s wd))/\Hid (CellsAt wx U [.bool (uName (e_k s wd)),.bool (uSum (e_k s wd)),.bool (uThing (e_k s wd)),.int .i64 (uMost (e_k s wd))]))
 case first=>
  cases hi:inK (e_k s wd) with
  |true=>
   go_wp2_with fail
   go_meet
   refine ⟨?_,U5.out⟩
   rw [show e_b2 s wd=(e_t1 s wd).2.2 by unfold e_b2;rw [hi];simp]
   exact E5.out
  |false=>
   go_wp2_with fail
   refine (fail_any b _ _ _ gt gv W5 E5.out.rs).mono ?_
   rintro e w6 ⟨rfl,h6,g6⟩
   go_wp2_with fail
   go_meet
   refine ⟨?_,U5.out.far g6 (by omega)⟩
   rw [show e_b2 s wd=true by unfold e_b2;rw [hi];simp]
   exact E5.out.step HA.out hbl h6 g6
 case rest=>
 revert wc
 intro w6 hcut
 obtain ⟨E6,U6⟩:=hcut
 clear E5 U5 hg
 obtain ⟨B7,hB7⟩:∃B7:Nat,B7=0:=⟨_,rfl⟩
 clear hB7 B7
 have D6:Hid _:=E6.out.below ((Below.refl w6.heap.size w6).drew)
 have hza:Below w6.heap.size w6 (w6.alloc (.cells #[.int .i64 0,.string ⟨#[]⟩,.string ⟨#[]⟩,.int .i64 0,.string ⟨#[]⟩,.slice none 0 0] 77)):=(Below.refl _ _).alloc (Nat.le_refl _) _
 have D6':Hid _:=E6.out.below hza.drew
 have Z6':Hid (CellsAt (w6.alloc (.cells #[.int .i64 0,.string ⟨#[]⟩,.string ⟨#[]⟩,.int .i64 0,.string ⟨#[]⟩,.slice none 0 0] 77)).drew w6.heap.size [.int .i64 0,.string ⟨#[]⟩,.string ⟨#[]⟩,.int .i64 0,.string ⟨#[]⟩,.slice none 0 0]):=CellsAt.new w6 _ _
 obtain ⟨er6,_,x0,x1,x2,f0,f1,f2⟩:=E6.out.rs
 have xa1:(w6.alloc (.cells #[.int .i64 0,.string ⟨#[]⟩,.string ⟨#[]⟩,.int .i64 0,.string ⟨#[]⟩,.slice none 0 0] 77)).cell? ⟨b,1,none⟩=some (.int .i64 (e_k s wd)):=(hza.cell (p:=⟨b,1,none⟩) E6.out.rs.lt).trans x1
 obtain ⟨gt,gv,hg⟩:=D6.out.env.er 6 (by simp)
 obtain ⟨gt',gv',hg'⟩:=D6'.out.env.er 6 (by simp)
 have hbl6:=E6.out.rs.lt
 have hw6:=E6.out.lt
 clear hza
 go_upto_region 7 with fail
 go_cut [7] (fun v wx=>∃B7:Nat,v=.pointer (some ⟨B7,0,none⟩)/\w6.heap.size<=B7/\Hid (EW w wx b (e_t2 s wd).2.1 (e_k s wd) (e_t2 s wd).2.2)/\Hid (w6.grownBy wx (some b))/\Hid (CellsAt wx B7 [.int .i64 (e_k s wd),.string ⟨#[]⟩,.string ⟨#[]⟩,.int .i64 (e_n s wd),.string ⟨#[]⟩,.slice none 0 0]))
 case first=>
  go_region_with (first
   |(go_at_call 159;refine (number_any b _ _ _ 4 gt gv w6.drew D6.out.rs (by omega) hg).mono ?_;rintro e w7 ⟨rfl,h7,g7⟩;have E7:Hid (EW w w7 b (e_t2 s wd).2.1 (e_k s wd) (e_t2 s wd).2.2):=D6.out.step HA.out hbl h7 g7;obtain ⟨er7,_,y0,y1,y2,_,_,_⟩:=h7;have tagA:=g7;have hl7:=E7.out.rs.lt)
   |(go_at_call 159;refine (number_any b _ _ _ 4 gt' gv' _ D6'.out.rs (by omega) hg').mono ?_;rintro e w7 ⟨rfl,h7,g7⟩;have E7:Hid (EW w w7 b (e_t2 s wd).2.1 (e_k s wd) (e_t2 s wd).2.2):=D6'.out.step HA.out hbl h7 g7;obtain ⟨er7,_,y0,y1,y2,_,_,_⟩:=h7;have Z7:=CellsAt.far Z6'.out g7 hbl6;have z0:=(Z7 0 _ rfl);have z1:=(Z7 1 _ rfl);have z2:=(Z7 2 _ rfl);have z3:=(Z7 3 _ rfl);have z4:=(Z7 4 _ rfl);have z5:=(Z7 5 _ rfl);obtain ⟨z0,y0f⟩:=z0;obtain ⟨z1,y1f⟩:=z1;obtain ⟨z2,y2f⟩:=z2;obtain ⟨z3,y3f⟩:=z3;obtain ⟨z4,y4f⟩:=z4;obtain ⟨z5,y5f⟩:=z5;have tagB:=g7;have hl7:=E7.out.rs.lt))
  all_goals go_wp2_with fail
  all_goals go_meet
  all_goals first
   |(have hA:Below w7.heap.size w7 (w7.alloc (.cells #[.int .i64 (e_k s wd),.string ⟨#[]⟩,.string ⟨#[]⟩,.int .i64 (e_n s wd),.string ⟨#[]⟩,.slice none 0 0] 77)):=(Below.refl _ _).alloc (Nat.le_refl _) _
     exact ⟨w7.heap.size,rfl,tagA.size,E7.out.below hA,((grown_below (some b) (Below.refl w6.heap.size w6).drew).trans tagA).trans (grown_below _ hA),CellsAt.new w7 _ _⟩)
   |(have hz6:w.heap.size<w6.heap.size:=hw6
     refine ⟨w6.heap.size,rfl,Nat.le_refl _,?_,?_,?_⟩
     ·exact (((((E7.out.set HA.out hbl w6.heap.size 0 _ hz6).set HA.out hbl w6.heap.size 1 _ hz6).set HA.out hbl w6.heap.size 2 _ hz6).set HA.out hbl w6.heap.size 3 _ hz6).set HA.out hbl w6.heap.size 4 _ hz6).set HA.out hbl w6.heap.size 5 _ hz6
     ·have g0:w6.grownBy w7 (some b):=(grown_below (some b) ((Below.refl w6.heap.size w6).alloc (Nat.le_refl _) _).drew).trans tagB
      exact (((((g0.andThen (rd_grown _ w6.heap.size 0 _) (fun j e=>by cases e;exact .inl (Nat.le_refl _))).andThen (rd_grown _ w6.heap.size 1 _) (fun j e=>by cases e;exact .inl (Nat.le_refl _))).andThen (rd_grown _ w6.heap.size 2 _) (fun j e=>by cases e;exact .inl (Nat.le_refl _))).andThen (rd_grown _ w6.heap.size 3 _) (fun j e=>by cases e;exact .inl (Nat.le_refl _))).andThen (rd_grown _ w6.heap.size 4 _) (fun j e=>by cases e;exact .inl (Nat.le_refl _))).andThen (rd_grown _ w6.heap.size 5 _) (fun j e=>by cases e;exact .inl (Nat.le_refl _))
     ·exact (((((Z7.set 0 _).set 1 _).set 2 _).set 3 _).set 4 _).set 5 _)
 case rest=>
 revert wc
 intro w8 hcut
 obtain ⟨B7,rfl,hB7,E8,G8,Z8⟩:=hcut
 have hUB:U<B7:=Nat.lt_of_lt_of_le U6.out.lt hB7
 have U8:Hid (CellsAt w8 U [.bool (uName (e_k s wd)),.bool (uSum (e_k s wd)),.bool (uThing (e_k s wd)),.int .i64 (uMost (e_k s wd))]):=U6.out.far G8.out (by omega)
 clear E6 U6 D6 D6' Z6' x0 x1 x2 f0 f1 f2 xa1 hg hg' G8
 have hB7w:w.heap.size<B7:=by omega
 obtain ⟨gt,gv,hg⟩:=E8.out.env.er 6 (by simp)
 go_wp2_with fail
 refine (number_any b _ _ _ 1 gt gv w8 E8.out.rs (by omega) hg).mono ?_
 rintro e w9 ⟨rfl,h9,g9⟩
 have E9:Hid (EW w w9 b (e_t3 s wd).2.1 (e_k s wd) (e_t3 s wd).2.2):=E8.out.step HA.out hbl h9 g9
 have Z9:Hid (CellsAt w9 B7 [.int .i64 (e_k s wd),.string ⟨#[]⟩,.string ⟨#[]⟩,.int .i64 (e_n s wd),.string ⟨#[]⟩,.slice none 0 0]):=Z8.out.far g9 (by omega)
 have U9:Hid (CellsAt w9 U [.bool (uName (e_k s wd)),.bool (uSum (e_k s wd)),.bool (uThing (e_k s wd)),.int .i64 (uMost (e_k s wd))]):=U8.out.far g9 (by omega)
 rw [show numB (takeR (e_t2 s wd).2.1 (e_t2 s wd).2.2 (1:Nat)).1.data.toList=e_m s wd from rfl]
 clear E8 Z8 U8 h9 g9 hg
 obtain ⟨gt,gv,hg⟩:=E9.out.env.er 6 (by simp)
 go_wp2_with fail
 refine (take_any b _ _ _ (e_m s wd) gt gv w9 E9.out.rs (fun _=>e_m_nonneg s wd) hg).mono ?_
 rintro e w10 ⟨rfl,h10,g10⟩
 have E10:Hid (EW w w10 b (e_t4 s wd).2.1 (e_k s wd) (e_t4 s wd).2.2):=E9.out.step HA.out hbl h10 g10
 have Z10:Hid (CellsAt w10 B7 [.int .i64 (e_k s wd),.string ⟨#[]⟩,.string ⟨#[]⟩,.int .i64 (e_n s wd),.string ⟨#[]⟩,.slice none 0 0]):=Z9.out.far g10 (by omega)
 have U10:Hid (CellsAt w10 U [.bool (uName (e_k s wd)),.bool (uSum (e_k s wd)),.bool (uThing (e_k s wd)),.int .i64 (uMost (e_k s wd))]):=U9.out.far g10 (by omega)
 rw [show (takeR (e_t3 s wd).2.1 (e_t3 s wd).2.2 (e_m s wd)).1=(e_t4 s wd).1 from rfl]
 clear E9 Z9 U9 h10 g10 hg
 obtain ⟨z2,zf2⟩:=Z10.out 2 _ rfl
 obtain ⟨W11,hW11⟩:∃W11,W11=w10.setCell ⟨B7,2,none⟩ (.string (e_t4 s wd).1):=⟨_,rfl⟩
 have E11:Hid (EW w W11 b (e_t4 s wd).2.1 (e_k s wd) (e_t4 s wd).2.2):=by rw [hW11];exact E10.out.set HA.out hbl B7 2 _ hB7w
 have Z11:Hid (CellsAt W11 B7 [.int .i64 (e_k s wd),.string ⟨#[]⟩,.string (e_t4 s wd).1,.int .i64 (e_n s wd),.string ⟨#[]⟩,.slice none 0 0]):=by rw [hW11];exact Z10.out.set 2 _
 have U11:Hid (CellsAt W11 U [.bool (uName (e_k s wd)),.bool (uSum (e_k s wd)),.bool (uThing (e_k s wd)),.int .i64 (uMost (e_k s wd))]):=by rw [hW11];exact U10.out.far' (rd_grown _ _ _ _) (by omega)
 have HW11:Hid _:=hW11
 clear hW11 E10 Z10 U10
 go_upto_region 9 with fail
 rw [←HW11.out]
 clear HW11 z2 zf2
 obtain ⟨u1,_⟩:=U11.out 1 _ rfl
 go_upto_if 45 with fail
 go_cut [] (fun wx=>Hid (EW w wx b (e_t5 s wd).2.1 (e_k s wd) (e_t5 s wd).2.2)/\Hid (CellsAt wx U [.bool (uName (e_k s wd)),.bool (uSum (e_k s wd)),.bool (uThing (e_k s wd)),.int .i64 (uMost (e_k s wd))])/\Hid (CellsAt wx B7 [.int .i64 (e_k s wd),.string (e_t5 s wd).1,.string (e_t4 s wd).1,.int .i64 (e_n s wd),.string ⟨#[]⟩,.slice none 0 0]))
 case first=>
  cases hu:uSum (e_k s wd) with
  |true=>
   have e5:Hid (e_t5 s wd=takeR (e_t4 s wd).2.1 (e_t4 s wd).2.2 wd):=by show _=_;unfold e_t5;rw [if_pos hu]
   obtain ⟨gt,gv,hg⟩:=E11.out.env.er 6 (by simp)
   go_wp2_with fail
   refine (take_any b _ _ _ wd gt gv W11 E11.out.rs (fun h=>e_t4_bad h) hg).mono ?_
   rintro e w12 ⟨rfl,h12,g12⟩
   rw [←e5.out] at h12 ⊢
   have E12:=E11.out.step HA.out hbl h12 g12
   have Z12:=Z11.out.far g12 (by omega)
   have U12:=U11.out.far g12 (by omega)
   obtain ⟨z1,zf1⟩:=Z12 1 _ rfl
   clear h12 g12 hg u1 E11 Z11 U11
   go_wp2_with fail
   go_meet
   refine ⟨E12.set HA.out hbl B7 1 _ hB7w,?_,Z12.set 1 _⟩
   exact U12.far' (rd_grown _ _ _ _) (by omega)
  |false=>
   have e5:Hid (e_t5 s wd=(⟨#[]⟩,(e_t4 s wd).2)):=by show _=_;unfold e_t5;rw [if_neg (by rw [hu];decide)]
   go_wp2_with fail
   go_meet
   rw [e5.out]
   exact ⟨E11.out,U11.out,Z11.out⟩
 case rest=>
 revert wc
 intro w12 hcut
 obtain ⟨E12,U12,Z12⟩:=hcut
 clear E11 Z11 U11 u1
 have HSZ:Hid _:=e_sizes (wd:=wd) hs
 obtain ⟨u2,_⟩:=U12.out 2 _ rfl
 go_upto_if 51 with fail
 go_cut [] (fun wx=>∃(ra:Option Addr) (rc:Nat),Hid (EW w wx b (e_t6 s wd).1 (e_k s wd) (e_t6 s wd).2)/\Hid (CellsAt wx B7 [.int .i64 (e_k s wd),.string (e_t5 s wd).1,.string (e_t4 s wd).1,.int .i64 (e_n s wd),.string (e_th s wd).1,.slice ra (e_th s wd).2.length rc])/\Hid (wx.ownsRow (w.heap.size+1) 9 1 (.slice ra (e_th s wd).2.length rc) (e_th s wd).2.length ((e_th s wd).2.map Value.string)))
 case first=>
  cases hu:uThing (e_k s wd) with
  |true=>
   have e6:Hid (e_t6 s wd=(thRest (e_t5 s wd).2.1 (e_t5 s wd).2.2,thBad (e_t5 s wd).2.1 (e_t5 s wd).2.2 wd)):=by show _=_;unfold e_t6;rw [if_pos hu]
   have et:Hid (e_th s wd=((rd (thTk (e_t5 s wd).2.1 (e_t5 s wd).2.2) wd).1,(rd (thTk (e_t5 s wd).2.1 (e_t5 s wd).2.2) wd).2.1)):=by show _=_;unfold e_th;rw [if_pos hu]
   go_wp2_with fail
   refine (thing_any b _ _ _ wd w12 E12.out.rs E12.out.env HA.out HSZ.out.2.1).mono ?_
   rintro e w13 ⟨v,rfl,ho,h13,g13⟩
   have t1:(rd (thTk (e_t5 s wd).2.1 (e_t5 s wd).2.2) wd).1=(e_th s wd).1:=by rw [et.out]
   have t2:(rd (thTk (e_t5 s wd).2.1 (e_t5 s wd).2.2) wd).2.1=(e_th s wd).2:=by rw [et.out]
   rw [t2] at ho
   rw [t1]
   clear t1 t2
   have h13:RSt w13 b (e_t6 s wd).1 (e_k s wd) (e_t6 s wd).2:=by rw [e6.out];exact h13
   obtain ⟨ra,rc,hv,_⟩:=own_formS ho
   subst hv
   have E13:=E12.out.step HA.out hbl h13 g13
   have hw13:=E12.out.lt
   have Z13:=Z12.out.far g13 (by omega)
   have hB13:=Z13.lt
   obtain ⟨z4,zf4⟩:=Z13 4 _ rfl
   obtain ⟨z5,zf5⟩:=Z13 5 _ rfl
   have hB12:B7<w12.heap.size:=Z12.out.lt
   clear h13 g13 u2 E12 U12 Z12 e6 et
   go_wp2_with fail
   go_meet
   exact ⟨ra,rc,(E13.set HA.out hbl B7 4 _ hB7w).set HA.out hbl B7 5 _ hB7w,(Z13.set 4 _).set 5 _,(ownsRow_setCell_below (ownsRow_setCell_below ho hB12 _) hB12 _).mono (by omega)⟩
  |false=>
   have e6:Hid (e_t6 s wd=(e_t5 s wd).2):=by show _=_;unfold e_t6;rw [if_neg (by rw [hu];decide)]
   have et:Hid (e_th s wd=(⟨#[]⟩,[])):=by show _=_;unfold e_th;rw [if_neg (by rw [hu];decide)]
   go_wp2_with fail
   go_meet
   rw [e6.out,et.out]
   exact ⟨none,0,E12.out,Z12.out,World.ownsRow_nil _ _ _ _⟩
 case rest=>
 revert wc
 intro w14 hcut
 obtain ⟨ra,rc,E14,Z14,O14⟩:=hcut
 clear E12 U12 Z12 u2
 obtain ⟨er14,_,x0,x1,x2,f0,f1,f2⟩:=E14.out.rs
 obtain ⟨gt,gv,hg⟩:=E14.out.env.er 2 (by simp)
 have hOb:∀k,(Value.slice ra (e_th s wd).2.length rc).ownBlock=some k->b<k:=fun k hk=>by have:=(O14.out.lt k hk).1;omega
 have HOb:Hid _:=hOb
 clear hOb
 go_upto_if 60 with fail
 go_cut [] (fun wx=>Hid (EW w wx b (e_t6 s wd).1 (e_k s wd) (e_b8 s wd))/\Hid (CellsAt wx B7 [.int .i64 (e_k s wd),.string (e_t5 s wd).1,.string (e_t4 s wd).1,.int .i64 (e_n s wd),.string (e_th s wd).1,.slice ra (e_th s wd).2.length rc])/\Hid (wx.ownsRow (w.heap.size+1) 9 1 (.slice ra (e_th s wd).2.length rc) (e_th s wd).2.length ((e_th s wd).2.map Value.string)))
 case first=>
  have hie:Hid _:=isE (s:=(e_t6 s wd).1)
  cases hq:(e_t6 s wd).1.toList.isEmpty with
  |true=>
   have h0':(e_t6 s wd).1.size=0:=by
    have:=hie.out
    rw [hq] at this
    simpa using this.symm
   have h0:Hid _:=h0'
   clear h0'
   clear hq
   go_wp2_with fail
   go_meet
   rw [show e_b8 s wd=(e_t6 s wd).2 by unfold e_b8;rw [decide_eq_true h0.out];simp]
   exact ⟨E14.out,Z14.out,O14.out⟩
  |false=>
   have h0':¬(e_t6 s wd).1.size=0:=by
    have:=hie.out
    rw [hq] at this
    simpa using this.symm
   have h0:Hid _:=h0'
   clear h0'
   clear hq
   go_wp2_with fail
   refine (fail_any b _ _ _ gt gv w14 E14.out.rs).mono ?_
   rintro e w15 ⟨rfl,h15,g15⟩
   have E15:=E14.out.step HA.out hbl h15 g15
   have Z15:=Z14.out.far g15 (by omega)
   have O15:=O14.out.kept g15 (.inr (fun e=>by have:=HOb.out b e;omega))
   clear h15 g15 x0 x1 x2 f0 f1 f2 hg
   go_wp2_with fail
   go_meet
   rw [show e_b8 s wd=true by unfold e_b8;rw [decide_eq_false h0.out];simp]
   exact ⟨E15,Z15,O15⟩
 case rest=>
 revert wc
 intro w16 hcut
 obtain ⟨E16,Z16,O16⟩:=hcut
 clear E14 Z14 O14 x0 x1 x2 f0 f1 f2 hg
 obtain ⟨z0,_⟩:=Z16.out 0 _ rfl
 obtain ⟨z1,_⟩:=Z16.out 1 _ rfl
 obtain ⟨z2,_⟩:=Z16.out 2 _ rfl
 obtain ⟨z3,_⟩:=Z16.out 3 _ rfl
 obtain ⟨z4,_⟩:=Z16.out 4 _ rfl
 obtain ⟨z5,_⟩:=Z16.out 5 _ rfl
 have hlen:=e_th_len s wd
 have HSR:Hid (SRow w16 w16.heap.size ra (e_th s wd).2):=by
  obtain ⟨a',c',hv,hr⟩:=own_formS O16.out
  cases hv
  exact hr
 go_wp2_with fail
 refine (iOkE (e_k s wd) (e_t5 s wd).1 (e_t4 s wd).1 (e_n s wd) (e_th s wd).1 ra rc (e_th s wd).2 wd w16 E16.out.env.tab HSR.out (by omega) (by have:=HSZ.out.2.2.1;unfold maxLen;omega) (by have:=HSZ.out.1;unfold maxLen;omega)).mono ?_
 rintro e w17 ⟨rfl,hb17⟩
 rw [show okE (e_k s wd) (e_t5 s wd).1 (e_t4 s wd).1 (e_n s wd) (e_th s wd).1 (e_th s wd).2 wd=e_ok s wd from rfl]
 have E17:Hid (EW w w17 b (e_t6 s wd).1 (e_k s wd) (e_b8 s wd)):=E16.out.below hb17
 have Z17:Hid (CellsAt w17 B7 [.int .i64 (e_k s wd),.string (e_t5 s wd).1,.string (e_t4 s wd).1,.int .i64 (e_n s wd),.string (e_th s wd).1,.slice ra (e_th s wd).2.length rc]):=Z16.out.below hb17
 have O17:Hid (w17.ownsRow (w.heap.size+1) 9 1 (.slice ra (e_th s wd).2.length rc) (e_th s wd).2.length ((e_th s wd).2.map Value.string)):=O16.out.kept (grown_below none hb17) (Classical.em _)
 clear E16 Z16 O16 z0 z1 z2 z3 z4 z5 hb17
 obtain ⟨gt,gv,hg⟩:=E17.out.env.er 3 (by simp)
 go_upto_if 67 with fail
 go_cut [] (fun wx=>Hid (EW w wx b (e_t6 s wd).1 (e_k s wd) (e_b9 s wd))/\Hid (CellsAt wx B7 [.int .i64 (e_k s wd),.string (e_t5 s wd).1,.string (e_t4 s wd).1,.int .i64 (e_n s wd),.string (e_th s wd).1,.slice ra (e_th s wd).2.length rc])/\Hid (wx.ownsRow (w.heap.size+1) 9 1 (.slice ra (e_th s wd).2.length rc) (e_th s wd).2.length ((e_th s wd).2.map Value.string)))
 case first=>
  cases hok:e_ok s wd with
  |true=>
   go_wp2_with fail
   go_meet
   rw [show e_b9 s wd=e_b8 s wd by unfold e_b9;rw [hok];simp]
   exact ⟨E17.out,Z17.out,O17.out⟩
  |false=>
   go_wp2_with fail
   refine (fail_any b _ _ _ gt gv w17 E17.out.rs).mono ?_
   rintro e w18 ⟨rfl,h18,g18⟩
   have E18:=E17.out.step HA.out hbl h18 g18
   have Z18:=Z17.out.far g18 (by omega)
   have O18:=O17.out.kept g18 (.inr (fun e=>by have:=HOb.out b e;omega))
   clear h18 g18 hg
   go_wp2_with fail
   go_meet
   rw [show e_b9 s wd=true by unfold e_b9;rw [hok];simp]
   exact ⟨E18,Z18,O18⟩
 case rest=>
 revert wc
 intro w19 hcut
 obtain ⟨E19,Z19,O19⟩:=hcut
 clear E17 Z17 O17 hg
 obtain ⟨z0,_⟩:=Z19.out 0 _ rfl
 obtain ⟨z1,_⟩:=Z19.out 1 _ rfl
 obtain ⟨z2,_⟩:=Z19.out 2 _ rfl
 obtain ⟨z3,_⟩:=Z19.out 3 _ rfl
 obtain ⟨z4,_⟩:=Z19.out 4 _ rfl
 obtain ⟨z5,_⟩:=Z19.out 5 _ rfl
 obtain ⟨r0,q0⟩:=E19.out.res 0 _ rfl
 obtain ⟨r1,q1⟩:=E19.out.res 1 _ rfl
 obtain ⟨r2,q2⟩:=E19.out.res 2 _ rfl
 obtain ⟨r3,q3⟩:=E19.out.res 3 _ rfl
 obtain ⟨r4,q4⟩:=E19.out.res 4 _ rfl
 obtain ⟨r5,q5⟩:=E19.out.res 5 _ rfl
 have hne:b≠w.heap.size:=by omega
 go_wp2
 refine bodyPost_ret (v:=.agg #[.int .i64 (e_k s wd),.string (e_t5 s wd).1,.string (e_t4 s wd).1,.int .i64 (e_n s wd),.string (e_th s wd).1,.slice ra (e_th s wd).2.length rc]) (by simp [results,Tryz.results136,go_sem, *]) rfl ?_
 have hz:w.heap.size<w.heap.size+1:=by omega
 refine ⟨_,rfl,?_,?_,?_⟩
 ·refine World.ownsRow.mono ?_ (Nat.le_succ w.heap.size)
  iterate 6 (refine ownsRow_setCell_below ?_ hz _)
  exact O19.out
 ·exact (((((E19.out.rs.far (rd_grown _ w.heap.size 0 _) hne).far (rd_grown _ w.heap.size 1 _) hne).far (rd_grown _ w.heap.size 2 _) hne).far (rd_grown _ w.heap.size 3 _) hne).far (rd_grown _ w.heap.size 4 _) hne).far (rd_grown _ w.heap.size 5 _) hne
 ·exact (((((E19.out.gr.andThen (rd_grown _ w.heap.size 0 _) (fun j e=>by cases e;exact .inl (Nat.le_refl _))).andThen (rd_grown _ w.heap.size 1 _) (fun j e=>by cases e;exact .inl (Nat.le_refl _))).andThen (rd_grown _ w.heap.size 2 _) (fun j e=>by cases e;exact .inl (Nat.le_refl _))).andThen (rd_grown _ w.heap.size 3 _) (fun j e=>by cases e;exact .inl (Nat.le_refl _))).andThen (rd_grown _ w.heap.size 4 _) (fun j e=>by cases e;exact .inl (Nat.le_refl _))).andThen (rd_grown _ w.heap.size 5 _) (fun j e=>by cases e;exact .inl (Nat.le_refl _))
end Go.Proofs.YtpekbmegopfhfaaGreatDoor
namespace Go.Proofs.YtpekbmegopfhfaaGreatDoor
open Go.ChangeShapes Go.WideShapes Go.ChangeAt Go.RowKit
abbrev mkB (l:List UInt8):ByteArray:=⟨l.toArray⟩
theorem mkB_eta (s:ByteArray):mkB s.data.toList=s:=rfl
theorem mkB_ex (l:List UInt8) (a b:Nat):(mkB l).extract a b=mkB ((l.drop a).take (b -a)):=by
 apply ByteArray.ext
 rw [ByteArray.data_extract]
 apply Array.ext'
 simp [List.take_drop]
theorem mkB_size (l:List UInt8):(mkB l).size=l.length:=by simp [ByteArray.size]
def refL (T:List UInt8) (wd i:Nat):ByteArray:=mkB ((T.drop (i *wd)).take wd)
theorem flat_refs (T:List UInt8) (wd:Nat):∀k,k *wd<=T.length->flat ((List.range k).map (refL T wd))=T.take (k *wd):=by
 intro k
 induction k with
 |zero=>intro _;simp [flat]
 |succ k ih=>
  intro h
  have hk:k *wd<=T.length:=by rw [Nat.succ_mul] at h;omega
  rw [List.range_succ,List.map_append]
  unfold flat at *
  rw [List.flatMap_append,ih hk]
  simp only [List.map_cons,List.map_nil,List.flatMap_cons,List.flatMap_nil,List.append_nil,refL]
  rw [Nat.succ_mul,List.take_add]
theorem refs_flat (ss:List ByteArray) (t:List UInt8) (wd:Nat) (h:∀s∈ss,s.size=wd):(List.range ss.length).map (refL (flat ss++t) wd)=ss:=by
 induction ss with
 |nil=>rfl
 |cons s r ih=>
  have hs:s.data.toList.length=wd:=h s (List.mem_cons_self ..)
  have hr:=ih (fun x hx=>h x (by simp [hx]))
  have hf:flat (s::r)++t=s.data.toList++(flat r++t):=by simp [flat]
  rw [List.length_cons,List.range_succ_eq_map,List.map_cons,List.map_map,hf]
  congr 1
  ·unfold refL
   rw [Nat.zero_mul,List.drop_zero,List.take_left' hs]
  ·refine Eq.trans ?_ hr
   apply List.map_congr_left
   intro i _
   simp only [Function.comp,refL]
   congr 2
   rw [show Nat.succ i *wd=s.data.toList.length+i *wd by rw [Nat.succ_mul,hs];omega,←List.drop_drop,List.drop_left]
theorem rd_mk (c:UInt8) (T:List UInt8) (wd:Int) (h1:1<=wd) (h2:wd<=8):
 rd (mkB (c::T)) wd=if c.toNat *wd.toNat<=T.length/\okThing (mkB (T.drop (c.toNat *wd.toNat))) ((List.range c.toNat).map (refL T wd.toNat)) wd=true then (mkB (T.drop (c.toNat *wd.toNat)),(List.range c.toNat).map (refL T wd.toNat),true) else (⟨#[]⟩,[],false):=by
 obtain ⟨W,rfl⟩:∃W:Nat,wd=W:=⟨wd.toNat,by omega⟩
 have hsz:(mkB (c::T)).size=T.length+1:=by rw [mkB_size];rfl
 have e1:(mkB (c::T)).extract 1 (mkB (c::T)).size=mkB T:=by rw [hsz,mkB_ex];simp
 have ht:txtI (mkB (c::T)) W c.toNat=mkB (T.drop (c.toNat *W)):=by
  unfold txtI
  rw [e1,mkB_ex,hsz]
  congr 2
  rw [show ((c.toNat:Int) *(W:Int)).toNat=c.toNat *W by rw [←Int.natCast_mul];rfl]
  exact List.take_of_length_le (by simp)
 have hr:refsI (mkB (c::T)) W c.toNat=(List.range c.toNat).map (refL T W):=by
  unfold refsI
  apply List.map_congr_left
  intro i _
  unfold refI refL
  rw [e1,mkB_ex]
  congr 2
  rw [show ((i:Int) *(W:Int)).toNat=i *W by rw [←Int.natCast_mul];rfl,show ((i:Int) *(W:Int)+(W:Int)).toNat=i *W+W by rw [←Int.natCast_mul];omega]
  congr 1
  omega
 have hc:((c.toNat:Int) *(W:Int)<=((mkB (c::T)).size:Int) -1)↔c.toNat *W<=T.length:=by
  rw [hsz,←Int.natCast_mul]
  omega
 unfold rd
 rw [if_pos ⟨h1,h2⟩]
 simp only [List.head?_cons]
 unfold rdN
 rw [ht,hr]
 simp only [hc,Int.toNat_natCast]
theorem rd_sound {l:List UInt8} {wd:Int} (h:(rd (mkB l) wd).2.2=true):okThing (rd (mkB l) wd).1 (rd (mkB l) wd).2.1 wd=true/\formB (rd (mkB l) wd).1 (rd (mkB l) wd).2.1=l:=by
 by_cases hw:1<=wd/\wd<=8
 ·cases l with
  |nil=>unfold rd at h;rw [if_pos hw] at h;simp at h
  |cons c T=>
   rw [rd_mk c T wd hw.1 hw.2] at h ⊢
   split at h
   case isTrue hc=>
    rw [if_pos hc]
    refine ⟨hc.2,?_⟩
    simp only [formB,List.length_map,List.length_range]
    rw [flat_refs T wd.toNat c.toNat hc.1]
    simp
   case isFalse hc=>simp at h
 ·unfold rd at h
  rw [if_neg hw] at h
  simp at h
theorem rd_complete {t:ByteArray} {ss:List ByteArray} {wd:Int} (h:okThing t ss wd=true):rd (mkB (formB t ss)) wd=(t,ss,true):=by
 have p:=okThing_parts h
 have hsz:∀s∈ss,s.size=wd.toNat:=fun s hs=>by
  obtain ⟨i,hi⟩:=List.getElem?_of_mem hs
  have:=p.size hi
  omega
 have hn:(UInt8.ofNat ss.length).toNat=ss.length:=by have:=p.refs;simp;omega
 have hfl:(flat ss).length=ss.length *wd.toNat:=by rw [flat_length,p.bulk]
 unfold formB
 rw [rd_mk _ _ wd p.lo p.hi,hn,refs_flat ss t.data.toList wd.toNat hsz]
 have hd:(flat ss++t.data.toList).drop (ss.length *wd.toNat)=t.data.toList:=by rw [←hfl,List.drop_left]
 rw [hd,mkB_eta,if_pos ⟨by rw [List.length_append,hfl];omega,h⟩]
end Go.Proofs.YtpekbmegopfhfaaGreatDoor
namespace Go.Proofs.YtpekbmegopfhfaaGreatDoor
open Go.ChangeShapes Go.WideShapes Go.ChangeAt Go.RowKit
structure ER where
 k:Int
 sum:ByteArray
 name:ByteArray
 n:Int
 t:ByteArray
 ss:List ByteArray
 ok:Bool
def erNo:ER:=⟨0,⟨#[]⟩,⟨#[]⟩,0,⟨#[]⟩,[],false⟩
def rdE (s:ByteArray) (wd:Int):ER:=
 if e_b9 s wd=true then erNo else ⟨e_k s wd,(e_t5 s wd).1,(e_t4 s wd).1,e_n s wd,(e_th s wd).1,(e_th s wd).2,true⟩
def spS (k:Int) (rest:List UInt8):ByteArray:=if k=1 then ⟨#[]⟩ else mkB rest
def spT (k:Int) (rest:List UInt8) (wd:Int):ByteArray:=if k=1 then (rd (mkB rest) wd).1 else ⟨#[]⟩
def spR (k:Int) (rest:List UInt8) (wd:Int):List ByteArray:=if k=1 then (rd (mkB rest) wd).2.1 else []
def spOk (k n:Int) (name rest l:List UInt8) (wd:Int):Bool:=
 okE k (spS k rest) (mkB name) n (spT k rest wd) (spR k rest wd) wd&&decide (entTxt k (spS k rest) (mkB name) n (spT k rest wd) (spR k rest wd) wd=mkB l)
theorem takeR_mk (l:List UInt8) (n:Nat) (h:n<=l.length):takeR (mkB l) false n=(mkB (l.take n),mkB (l.drop n),false):=by
 unfold takeR
 rw [if_neg (by decide),if_neg (by rw [mkB_size];omega),mkB_ex,mkB_ex,mkB_size]
 simp
 exact List.take_of_length_le (by simp)
theorem takeR_short (l:List UInt8) (n:Int) (h:(l.length:Int)<n):takeR (mkB l) false n=(⟨#[]⟩,mkB l,true):=by
 unfold takeR
 rw [if_neg (by decide),if_pos (by rw [mkB_size];exact h)]
theorem takeR_true (r:ByteArray) (n:Int):takeR r true n=(⟨#[]⟩,r,true):=by simp [takeR]
theorem b9_of_t4 {s:ByteArray} {wd:Int} (h:(e_t4 s wd).2.2=true):e_b9 s wd=true:=by
 cases hb:e_b9 s wd with
 |true=>rfl
 |false=>
  unfold e_b9 at hb
  have h8:=(Bool.or_eq_false_iff.1 hb).1
  unfold e_b8 at h8
  have h6:=(Bool.or_eq_false_iff.1 h8).1
  have h5:(e_t5 s wd).2.2=false:=by
   unfold e_t6 at h6
   split at h6
   ·simp only [thBad] at h6
    exact takeR_bad (Bool.or_eq_false_iff.1 h6).1
   ·exact h6
  have h4:(e_t4 s wd).2.2=false:=by
   unfold e_t5 at h5
   split at h5
   ·exact takeR_bad h5
   ·exact h5
  rw [h4] at h
  cases h
theorem t4_of_t3 {s:ByteArray} {wd:Int} (h:(e_t3 s wd).2.2=true):(e_t4 s wd).2.2=true:=by unfold e_t4;rw [h,takeR_true]
theorem t3_of_t2 {s:ByteArray} {wd:Int} (h:(e_t2 s wd).2.2=true):(e_t3 s wd).2.2=true:=by unfold e_t3;rw [h,takeR_true]
theorem t2_of_b2 {s:ByteArray} {wd:Int} (h:e_b2 s wd=true):(e_t2 s wd).2.2=true:=by unfold e_t2;rw [h,takeR_true]
theorem b9_of_b2 {s:ByteArray} {wd:Int} (h:e_b2 s wd=true):e_b9 s wd=true:=b9_of_t4 (t4_of_t3 (t3_of_t2 (t2_of_b2 h)))
theorem b9_width {s:ByteArray} {wd:Int} (h:¬(1<=wd/\wd<=8)):e_b9 s wd=true:=by
 refine b9_of_b2 ?_
 unfold e_b2 e_t1
 rw [show e_b0 wd=true by unfold e_b0;simp;omega,takeR_true]
 rfl
theorem b0_ok {wd:Int} (h1:1<=wd) (h2:wd<=8):e_b0 wd=false:=by unfold e_b0;simp [h1,h2]
theorem numB1 (a:UInt8):numB [a]=(a.toNat:Int):=by simp [numB]
theorem numB4 (a b c d:UInt8):numB [a,b,c,d]=(a.toNat:Int) *16777216+(b.toNat:Int) *65536+(c.toNat:Int) *256+(d.toNat:Int):=by
 simp only [numB,List.foldl_cons,List.foldl_nil]
 omega
section
variable {wd:Int} (h1:1<=wd) (h2:wd<=8)
theorem t1_nil (h1:1<=wd) (h2:wd<=8):e_b9 (mkB []) wd=true:=by
 refine b9_of_b2 ?_
 unfold e_b2 e_t1
 rw [b0_ok h1 h2,takeR_short [] _ (by simp)]
 rfl
theorem t1_cons (a:UInt8) (l:List UInt8) (h1:1<=wd) (h2:wd<=8):e_t1 (mkB (a::l)) wd=(mkB [a],mkB l,false):=by
 unfold e_t1
 rw [b0_ok h1 h2,takeR_mk _ _ (by simp)]
 rfl
theorem k_cons (a:UInt8) (l:List UInt8) (h1:1<=wd) (h2:wd<=8):e_k (mkB (a::l)) wd=(a.toNat:Int):=by
 unfold e_k
 rw [t1_cons a l h1 h2]
 exact numB1 a
theorem b2_cons (a:UInt8) (l:List UInt8) (h1:1<=wd) (h2:wd<=8):e_b2 (mkB (a::l)) wd= !inK (a.toNat:Int):=by
 unfold e_b2
 rw [t1_cons a l h1 h2,k_cons a l h1 h2]
 rfl
theorem t2_short (a:UInt8) (l:List UInt8) (h1:1<=wd) (h2:wd<=8) (hl:l.length<4):e_b9 (mkB (a::l)) wd=true:=by
 cases hk:inK (a.toNat:Int) with
 |false=>exact b9_of_b2 (by rw [b2_cons a l h1 h2,hk];rfl)
 |true=>
  refine b9_of_t4 (t4_of_t3 (t3_of_t2 ?_))
  unfold e_t2
  rw [b2_cons a l h1 h2,hk,t1_cons a l h1 h2]
  rw [show (!true)=false from rfl,takeR_short l _ (by omega)]
theorem t2_ok (a0 a1 a2 a3 a4:UInt8) (l:List UInt8) (h1:1<=wd) (h2:wd<=8) (hk:inK (a0.toNat:Int)=true):e_t2 (mkB (a0::a1::a2::a3::a4::l)) wd=(mkB [a1,a2,a3,a4],mkB l,false):=by
 unfold e_t2
 rw [b2_cons _ _ h1 h2,hk,t1_cons _ _ h1 h2]
 rw [show (!true)=false from rfl,takeR_mk _ _ (by simp)]
 rfl
theorem t3_short (a0 a1 a2 a3 a4:UInt8) (h1:1<=wd) (h2:wd<=8) (hk:inK (a0.toNat:Int)=true):e_b9 (mkB [a0,a1,a2,a3,a4]) wd=true:=by
 refine b9_of_t4 (t4_of_t3 ?_)
 unfold e_t3
 rw [t2_ok a0 a1 a2 a3 a4 [] h1 h2 hk,takeR_short [] _ (by simp)]
theorem t3_ok (a0 a1 a2 a3 a4 a5:UInt8) (T:List UInt8) (h1:1<=wd) (h2:wd<=8) (hk:inK (a0.toNat:Int)=true):e_t3 (mkB (a0::a1::a2::a3::a4::a5::T)) wd=(mkB [a5],mkB T,false):=by
 unfold e_t3
 rw [t2_ok a0 a1 a2 a3 a4 (a5::T) h1 h2 hk,takeR_mk _ _ (by simp)]
 rfl
theorem m_ok (a0 a1 a2 a3 a4 a5:UInt8) (T:List UInt8) (h1:1<=wd) (h2:wd<=8) (hk:inK (a0.toNat:Int)=true):e_m (mkB (a0::a1::a2::a3::a4::a5::T)) wd=(a5.toNat:Int):=by
 unfold e_m
 rw [t3_ok a0 a1 a2 a3 a4 a5 T h1 h2 hk]
 exact numB1 a5
theorem t4_short (a0 a1 a2 a3 a4 a5:UInt8) (T:List UInt8) (h1:1<=wd) (h2:wd<=8) (hk:inK (a0.toNat:Int)=true) (hT:T.length<a5.toNat):e_b9 (mkB (a0::a1::a2::a3::a4::a5::T)) wd=true:=by
 refine b9_of_t4 ?_
 unfold e_t4
 rw [m_ok a0 a1 a2 a3 a4 a5 T h1 h2 hk,t3_ok a0 a1 a2 a3 a4 a5 T h1 h2 hk,takeR_short T _ (by omega)]
theorem t4_ok (a0 a1 a2 a3 a4 a5:UInt8) (T:List UInt8) (h1:1<=wd) (h2:wd<=8) (hk:inK (a0.toNat:Int)=true) (hT:a5.toNat<=T.length):e_t4 (mkB (a0::a1::a2::a3::a4::a5::T)) wd=(mkB (T.take a5.toNat),mkB (T.drop a5.toNat),false):=by
 unfold e_t4
 rw [m_ok a0 a1 a2 a3 a4 a5 T h1 h2 hk,t3_ok a0 a1 a2 a3 a4 a5 T h1 h2 hk,takeR_mk T _ hT]
theorem n_ok (a0 a1 a2 a3 a4:UInt8) (l:List UInt8) (h1:1<=wd) (h2:wd<=8) (hk:inK (a0.toNat:Int)=true):e_n (mkB (a0::a1::a2::a3::a4::l)) wd=numB [a1,a2,a3,a4]:=by
 unfold e_n
 rw [t2_ok a0 a1 a2 a3 a4 l h1 h2 hk]
theorem u8_back (a:UInt8) (x:Int) (h:x=(a.toNat:Int)):u8 x=a:=by
 subst h
 simp [u8]
theorem hdr_back (a0 a1 a2 a3 a4 a5:UInt8):hdr (a0.toNat:Int) (numB [a1,a2,a3,a4]) (a5.toNat:Int)=[a0,a1,a2,a3,a4,a5]:=by
 have b1:=a1.toNat_lt
 have b2:=a2.toNat_lt
 have b3:=a3.toNat_lt
 have b4:=a4.toNat_lt
 unfold hdr
 rw [numB4]
 rw [u8_back a0 _ rfl,u8_back a5 _ rfl,u8_back a1 _ (by omega),u8_back a2 _ (by omega),u8_back a3 _ (by omega),u8_back a4 _ (by omega)]
end
theorem inK_nat {k:Nat} (h:inK (k:Int)=true):1<=k/\k<=7:=by
 unfold inK at h
 simp at h
 omega
theorem okE_inK {k:Int} {sum name:ByteArray} {n:Int} {t:ByteArray} {ss:List ByteArray} {wd:Int} (h:inK k=false):okE k sum name n t ss wd=false:=by
 unfold okE
 unfold inK at h
 rw [h]
 rfl
theorem okE_entOk {k:Nat} {sum name:ByteArray} {n:Int} {t:ByteArray} {ss:List ByteArray} {wd:Int} (h:okE (k:Int) sum name n t ss wd=true):entOk k sum name n t ss wd=true:=by
 unfold okE at h
 exact (Bool.and_eq_true_iff.1 h).2
theorem okE_sum {k:Nat} {sum name:ByteArray} {n:Int} {t:ByteArray} {ss:List ByteArray} {wd:Int} (h:okE (k:Int) sum name n t ss wd=true):sumOk (kSum k) sum wd=true:=by
 have h':=okE_entOk h
 unfold entOk at h'
 exact (Bool.and_eq_true_iff.1 (Bool.and_eq_true_iff.1 h').2).1
theorem mkB_nil_of {l:List UInt8} (h:(mkB l).size=0):mkB l=⟨#[]⟩:=by
 rw [mkB_size] at h
 rw [List.eq_nil_of_length_eq_zero h]
theorem entTxt_iff {k:Nat} {sum name:ByteArray} {n:Int} {t:ByteArray} {ss:List ByteArray} {wd:Int} {l:List UInt8} (h:okE (k:Int) sum name n t ss wd=true):entTxt k sum name n t ss wd=mkB l↔entB k sum name n t ss=l:=by
 unfold entTxt
 rw [if_pos h,Int.toNat_natCast]
 constructor
 ·intro e
  have:=congrArg (fun s:ByteArray=>s.data.toList) e
  simpa using this
 ·intro e
  rw [e]
theorem rdE_shape (a0 a1 a2 a3 a4 a5:UInt8) (T:List UInt8) {wd:Int} (h1:1<=wd) (h2:wd<=8) (hT:a5.toNat<=T.length):
 rdE (mkB (a0::a1::a2::a3::a4::a5::T)) wd=
  if spOk (a0.toNat:Int) (numB [a1,a2,a3,a4]) (T.take a5.toNat) (T.drop a5.toNat) (a0::a1::a2::a3::a4::a5::T) wd=true then
   ⟨(a0.toNat:Int),spS (a0.toNat:Int) (T.drop a5.toNat),mkB (T.take a5.toNat),numB [a1,a2,a3,a4],spT (a0.toNat:Int) (T.drop a5.toNat) wd,spR (a0.toNat:Int) (T.drop a5.toNat) wd,true⟩
  else erNo:=by
 cases hk:inK (a0.toNat:Int) with
 |false=>
  unfold rdE
  rw [if_pos (b9_of_b2 (by rw [b2_cons _ _ h1 h2,hk];rfl)),if_neg (by unfold spOk;rw [okE_inK hk];simp)]
 |true=>
  obtain ⟨k1,k7⟩:=inK_nat hk
  have et4:=t4_ok a0 a1 a2 a3 a4 a5 T h1 h2 hk hT
  have ek:=k_cons a0 (a1::a2::a3::a4::a5::T) h1 h2
  have en:=n_ok a0 a1 a2 a3 a4 (a5::T) h1 h2 hk
  have hnl:(mkB (T.take a5.toNat)).size=a5.toNat:=by rw [mkB_size];simp;omega
  have hbk:∀x:List UInt8,hdr (a0.toNat:Int) (numB [a1,a2,a3,a4]) ((mkB (T.take a5.toNat)).size:Int)++(mkB (T.take a5.toNat)).data.toList++x=(a0::a1::a2::a3::a4::a5::T)↔x=T.drop a5.toNat:=by
   intro x
   rw [hnl,hdr_back]
   constructor
   ·intro h
    have h':T.take a5.toNat++x=T:=by simpa using h
    have h3:T.take a5.toNat++x=T.take a5.toNat++T.drop a5.toNat:=by rw [h',List.take_append_drop]
    exact List.append_cancel_left h3
   ·intro h
    rw [h]
    simp
  generalize hs:(mkB (a0::a1::a2::a3::a4::a5::T))=s at *
  generalize hnm:mkB (T.take a5.toNat)=name at *
  generalize hrs:T.drop a5.toNat=rest at *
  generalize hn:numB [a1,a2,a3,a4]=n at *
  by_cases hk1:a0.toNat=1
  ·
   have es:uSum (e_k s wd)=false:=by rw [ek,hk1];rfl
   have eu:uThing (e_k s wd)=true:=by rw [ek,hk1];rfl
   have et5:e_t5 s wd=(⟨#[]⟩,mkB rest,false):=by unfold e_t5;rw [if_neg (by rw [es];decide),et4]
   have htk:thTk (mkB rest) false=mkB rest:=by
    unfold thTk
    rw [mkB_size,takeR_mk _ _ (Nat.le_refl _)]
    simp
   have hre:thRest (mkB rest) false=⟨#[]⟩:=by
    unfold thRest
    rw [mkB_size,takeR_mk _ _ (Nat.le_refl _)]
    simp
   have hbd:thBad (mkB rest) false wd= !(rd (mkB rest) wd).2.2:=by
    unfold thBad
    rw [htk,mkB_size,takeR_mk _ _ (Nat.le_refl _)]
    rfl
   have eth:e_th s wd=((rd (mkB rest) wd).1,(rd (mkB rest) wd).2.1):=by unfold e_th;rw [if_pos eu,et5];simp only [htk]
   have et6:e_t6 s wd=(⟨#[]⟩, !(rd (mkB rest) wd).2.2):=by unfold e_t6;rw [if_pos eu,et5];simp only [hre,hbd]
   have eok:e_ok s wd=okE (a0.toNat:Int) ⟨#[]⟩ name n (rd (mkB rest) wd).1 (rd (mkB rest) wd).2.1 wd:=by unfold e_ok;rw [ek,en,et4,et5,eth]
   have eb9:e_b9 s wd=(!(rd (mkB rest) wd).2.2|| !okE (a0.toNat:Int) ⟨#[]⟩ name n (rd (mkB rest) wd).1 (rd (mkB rest) wd).2.1 wd):=by
    unfold e_b9 e_b8
    rw [eok,et6]
    simp [ByteArray.size]
   have i1:((a0.toNat:Int)=1):=by omega
   unfold rdE spOk spS spT spR
   rw [if_pos i1,if_pos i1,if_pos i1,hnm,eb9,ek,et5,et4,en,eth]
   simp only
   cases ho:okE (a0.toNat:Int) ⟨#[]⟩ name n (rd (mkB rest) wd).1 (rd (mkB rest) wd).2.1 wd with
   |false=>simp
   |true=>
    have hi:=entTxt_iff (l:=a0::a1::a2::a3::a4::a5::T) ho
    have hth:=(entOk_parts (okE_entOk ho)).thing hk1
    have hi2:entB a0.toNat ⟨#[]⟩ name n (rd (mkB rest) wd).1 (rd (mkB rest) wd).2.1=(a0::a1::a2::a3::a4::a5::T)↔formB (rd (mkB rest) wd).1 (rd (mkB rest) wd).2.1=rest:=by
     rw [←hbk]
     unfold entB
     rw [if_pos hk1]
     simp
    rw [hi2] at hi
    have hi3:formB (rd (mkB rest) wd).1 (rd (mkB rest) wd).2.1=rest↔(rd (mkB rest) wd).2.2=true:=by
     constructor
     ·intro e
      have:=rd_complete hth
      rw [e] at this
      rw [this]
     ·intro e
      exact (rd_sound e).2
    rw [hi3] at hi
    cases hr:(rd (mkB rest) wd).2.2 with
    |true=>
     rw [if_neg (by simp),if_pos (by simp;exact hi.2 hr)]
    |false=>
     rw [if_pos (by simp),if_neg (by simp;intro h;have:=hi.1 h;rw [hr] at this;cases this)]
  ·have eu:uThing (e_k s wd)=false:=by rw [ek];unfold uThing kThing;simp [hk1]
   have i1:¬((a0.toNat:Int)=1):=by omega
   have eth:e_th s wd=(⟨#[]⟩,[]):=by unfold e_th;rw [if_neg (by rw [eu];decide)]
   have et6:e_t6 s wd=(e_t5 s wd).2:=by unfold e_t6;rw [if_neg (by rw [eu];decide)]
   have hpos:∀sm,okE (a0.toNat:Int) sm name n ⟨#[]⟩ [] wd=true->sm=mkB rest->entTxt (a0.toNat:Int) sm name n ⟨#[]⟩ [] wd=s:=by
    intro sm ho e
    rw [←hs]
    refine (entTxt_iff (l:=a0::a1::a2::a3::a4::a5::T) ho).2 ?_
    unfold entB
    rw [if_neg hk1,e,List.append_nil]
    exact (hbk rest).2 rfl
   unfold rdE spOk spS spT spR
   rw [if_neg i1,if_neg i1,if_neg i1,hnm,hs]
   cases hu:kSum a0.toNat with
   |true=>
    have es:uSum (e_k s wd)=true:=by rw [ek];unfold uSum;rw [hk,Int.toNat_natCast,hu];rfl
    have et5:e_t5 s wd=takeR (mkB rest) false wd:=by unfold e_t5;rw [if_pos es,et4]
    obtain ⟨W,rfl⟩:∃W:Nat,wd=W:=⟨wd.toNat,by omega⟩
    by_cases hsz:rest.length=W
    ·rw [takeR_mk rest W (by omega),List.take_of_length_le (by omega),List.drop_of_length_le (by omega)] at et5
     have eok:e_ok s W=okE (a0.toNat:Int) (mkB rest) name n ⟨#[]⟩ [] W:=by unfold e_ok;rw [ek,en,et4,et5,eth]
     have eb9:e_b9 s W= !okE (a0.toNat:Int) (mkB rest) name n ⟨#[]⟩ [] W:=by
      unfold e_b9 e_b8
      rw [eok,et6,et5]
      simp [ByteArray.size]
     rw [eb9,ek,et5,et4,en,eth]
     simp only
     cases ho:okE (a0.toNat:Int) (mkB rest) name n ⟨#[]⟩ [] W with
     |false=>simp
     |true=>rw [if_neg (by simp),if_pos (by simp;exact hpos _ ho rfl)]
    ·have hno:okE (a0.toNat:Int) (mkB rest) name n ⟨#[]⟩ [] W=false:=by
      cases ho:okE (a0.toNat:Int) (mkB rest) name n ⟨#[]⟩ [] W with
      |false=>rfl
      |true=>
       have:=okE_sum ho
       rw [hu] at this
       unfold sumOk at this
       rw [if_pos rfl,mkB_size] at this
       simp at this
       omega
     have hb:e_b9 s W=true:=by
      unfold e_b9 e_b8
      rw [et6,et5]
      by_cases hl:rest.length<W
      ·rw [takeR_short rest _ (by omega)]
       simp
      ·rw [takeR_mk rest W (by omega)]
       have:(mkB (rest.drop W)).size≠0:=by rw [mkB_size];simp;omega
       simp [this]
     rw [if_pos hb,if_neg (by rw [hno];simp)]
   |false=>
    have es:uSum (e_k s wd)=false:=by rw [ek];unfold uSum;rw [hk,Int.toNat_natCast,hu];rfl
    have et5:e_t5 s wd=(⟨#[]⟩,mkB rest,false):=by unfold e_t5;rw [if_neg (by rw [es];decide),et4]
    by_cases hsz:rest.length=0
    ·have hr0:mkB rest=⟨#[]⟩:=mkB_nil_of (by rw [mkB_size];exact hsz)
     have eok:e_ok s wd=okE (a0.toNat:Int) (mkB rest) name n ⟨#[]⟩ [] wd:=by unfold e_ok;rw [ek,en,et4,et5,eth,hr0]
     have eb9:e_b9 s wd= !okE (a0.toNat:Int) (mkB rest) name n ⟨#[]⟩ [] wd:=by
      unfold e_b9 e_b8
      rw [eok,et6,et5]
      simp [mkB_size,hsz]
     rw [eb9,ek,et5,et4,en,eth]
     simp only
     cases ho:okE (a0.toNat:Int) (mkB rest) name n ⟨#[]⟩ [] wd with
     |false=>simp
     |true=>rw [if_neg (by simp),if_pos (by simp;exact hpos _ ho rfl),hr0]
    ·have hno:okE (a0.toNat:Int) (mkB rest) name n ⟨#[]⟩ [] wd=false:=by
      cases ho:okE (a0.toNat:Int) (mkB rest) name n ⟨#[]⟩ [] wd with
      |false=>rfl
      |true=>
       have:=okE_sum ho
       rw [hu] at this
       unfold sumOk at this
       rw [if_neg (by decide),mkB_size] at this
       simp at this
       simp [this] at hsz
     have hb:e_b9 s wd=true:=by
      unfold e_b9 e_b8
      rw [et6,et5]
      have:(mkB rest).size≠0:=by rw [mkB_size];exact hsz
      simp [this]
     rw [if_pos hb,if_neg (by rw [hno];simp)]
end Go.Proofs.YtpekbmegopfhfaaGreatDoor
