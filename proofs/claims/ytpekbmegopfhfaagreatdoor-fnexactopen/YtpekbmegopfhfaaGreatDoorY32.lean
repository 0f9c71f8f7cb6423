import Derived.Test.YtpekbmegopfhfaaGreatDoorY31
import Derived.Test.YtpekbmegopfhfaaGreatDoorY16
import Derived.Lib.OwnKind
set_option maxRecDepth 100000
set_option maxHeartbeats 16000000
namespace Go.Proofs.YtpekbmegopfhfaaGreatDoor
open Go.ChangeShapes Go.WideShapes Go.ChangeAt Go.RowKit _root_.Go.Proofs.Tryz
def v0:Vd:=⟨0,0,[],[],0,0,0,0,[],[],[],0,[],[],0,0,0⟩
def openV (wd lim:Int) (ss tt:List ByteArray) (r:Rs):Vd:=⟨wd,lim,ss,tt,wd,r.now,r.given,r.births,r.ks,r.ps,r.ls,0,[],[],0,0,0⟩
def OTo (wd lim:Int) (ss tt:List ByteArray) (c:Int) (v:Vd):Prop:=
 (¬((1<=wd/\wd<=8)/\(0<=lim/\lim<=1000000)/\okLog ss tt=true)/\c=1/\v=v0)∨
 (((1<=wd/\wd<=8)/\(0<=lim/\lim<=1000000)/\okLog ss tt=true)/\(((∃n,RunNo wd (ss++tt) n)/\c=2/\v=v0)∨(∃r,Run wd r0 (ss++tt) r/\c=0/\v=openV wd lim ss tt r)))
theorem OTo.det {wd lim:Int} {ss tt:List ByteArray} {c c':Int} {v v':Vd} (h:OTo wd lim ss tt c v) (k:OTo wd lim ss tt c' v'):c=c'/\v=v':=by
 rcases h with⟨h1,rfl,rfl⟩|⟨g,h⟩<;>rcases k with⟨k1,rfl,rfl⟩|⟨g',k⟩
 ·exact⟨rfl,rfl⟩
 ·exact absurd g' h1
 ·exact absurd g k1
 ·rcases h with⟨⟨n,h⟩,rfl,rfl⟩|⟨r,h,rfl,rfl⟩<;>rcases k with⟨⟨m,k⟩,rfl,rfl⟩|⟨q,k,rfl,rfl⟩
  ·exact⟨rfl,rfl⟩
  ·exact absurd k (h.not g.1.1 g.1.2)
  ·exact absurd h (k.not g.1.1 g.1.2)
  ·obtain rfl:=h.det k
   exact⟨rfl,rfl⟩
theorem VAns.nil (w:World) (base:Nat):VAns w base (.slice none 0 0) (.slice none 0 0) (.slice none 0 0) (.slice none 0 0) (.slice none 0 0) (.slice none 0 0) (.slice none 0 0) [] v0:=
 ⟨ORow.nil _ _,ORow.nil _ _,⟨rfl,⟨rfl,.inl ⟨rfl,rfl⟩⟩,(fun i k r h=>by cases i<;>cases h),⟨rfl,.inl ⟨rfl,rfl⟩⟩,⟨rfl,.inl ⟨rfl,rfl⟩⟩,List.nodup_nil⟩,ORow.nil _ _,ORow.nil _ _,List.nodup_nil⟩
def OAns (wd lim:Int) (ss tt:List ByteArray) (w:World) (e:Ending) (w':World):Prop:=
 ∃(c:Int) (v:Vd) (S U T P L Q M:Value) (rs:List Value),OTo wd lim ss tt c v/\e=.returned (.tuple #[.agg #[.int .i64 v.wd,.int .i64 v.lim,S,U,.int .i64 v.sw,.int .i64 v.now,.int .i64 v.given,.int .i64 v.births,T,P,L,.int .i64 v.ph,Q,M,.int .i64 v.top,.int .i64 v.at_,.int .i64 v.ro],.int .i64 c])/\VAns w' w.heap.size S U T P L Q M rs v/\Below w.heap.size w w'
theorem iOpen_any (wd lim:Int) (a b:Option Addr) (c d:Nat) (ss tt:List ByteArray) (w:World) (hr:SRow w w.heap.size a ss) (hq:SRow w w.heap.size b tt) (hl:ss.length<=1048576) (hl':tt.length<=1048576) (hs:∀s∈ss,s.size<=1048576) (ht:∀s∈tt,s.size<=1048576) (hE:Env w):
 Calls prog 21 #[.int .i64 wd,.int .i64 lim,.agg #[.slice a ss.length c,.slice b tt.length d]] w (OAns wd lim ss tt w):=by
 obtain⟨W,hW⟩:∃W,W=(w.alloc (.cells #[.slice a ss.length c,.slice b tt.length d] 40)).alloc (.cells #[.int .i64 0,.int .i64 0,.slice none 0 0,.slice none 0 0,.int .i64 0,.int .i64 0,.int .i64 0,.int .i64 0,.slice none 0 0,.slice none 0 0,.slice none 0 0,.int .i64 0,.slice none 0 0,.slice none 0 0,.int .i64 0,.int .i64 0,.int .i64 0] 44):=⟨_,rfl⟩;have bW:=(al2 hW).1;have zW:=(al2 hW).2.1
 have xW:=(al2 hW).2.2.1;have xZ:CellsAt W (w.heap.size+1) [.int .i64 0,.int .i64 0,.slice none 0 0,.slice none 0 0,.int .i64 0,.int .i64 0,.int .i64 0,.int .i64 0,.slice none 0 0,.slice none 0 0,.slice none 0 0,.int .i64 0,.slice none 0 0,.slice none 0 0,.int .i64 0,.int .i64 0,.int .i64 0]:=by
  have h1:=CellsAt.new (w.alloc (.cells #[.slice a ss.length c,.slice b tt.length d] 40)) [.int .i64 0,.int .i64 0,.slice none 0 0,.slice none 0 0,.int .i64 0,.int .i64 0,.int .i64 0,.int .i64 0,.slice none 0 0,.slice none 0 0,.slice none 0 0,.int .i64 0,.slice none 0 0,.slice none 0 0,.int .i64 0,.int .i64 0,.int .i64 0] 44;rw[World.size_alloc] at h1;rw[hW];exact h1
 have HX:Hid (CellsAt W _ _):=(al2 hW).2.2.1;have HZ:Hid (CellsAt W (w.heap.size+1) [.int .i64 0,.int .i64 0,.slice none 0 0,.slice none 0 0,.int .i64 0,.int .i64 0,.int .i64 0,.int .i64 0,.slice none 0 0,.slice none 0 0,.slice none 0 0,.int .i64 0,.slice none 0 0,.slice none 0 0,.int .i64 0,.int .i64 0,.int .i64 0]):=xZ
 have HR:Hid (∀X,Below w.heap.size w X->SRow X X.heap.size a ss/\SRow X X.heap.size b tt):=fun X hX=>⟨hr.below' hX,hq.below' hX⟩;have HW:Hid _:=hW;have HC1:Hid _:=iwidth_any wd W;have HC2:Hid _:=ilimit_any lim W;have HC3:Hid _:=iValidLog_any a b c d ss tt W (hr.below' bW) (hq.below' bW) hl hl' hs ht;obtain⟨y0,y1⟩:=CellsAt.c2 xW 0 1;clear hW xW xZ hr hq;by_cases hwd:1<=wd/\wd<=8
 ·rw[decide_eq_true hwd] at HC1
  by_cases hlim:0<=lim/\lim<=1000000
  ·rw[decide_eq_true hlim] at HC2
   cases hlog:okLog ss tt with
   |true=>
    rw[hlog] at HC3;have hll:=okLog_le hlog;have hl1:ss.length<=4000:=by rw[List.length_append] at hll;omega
    have hl2:tt.length<=4000:=by rw[List.length_append] at hll;omega
    have HP:Hid (∀X,Below w.heap.size w X->Calls prog 45 #[.int .i64 wd,.func (.func 59) #[.agg #[.slice a ss.length c,.slice b tt.length d]] #[]] X fun e w'=>Below X.heap.size X w'/\((∃n:Nat,RunNo wd (ss++tt) n/\e=.returned (.tuple #[.pointer none,.int .i64 n]))∨(∃r d m O P L base,Run wd r0 (ss++tt) r/\e=.returned (.tuple #[.pointer (some ⟨d,0,none⟩),.int .i64 0])/\Dr w' base d m O P L wd r.now r.given r.births r.ks r.ps r.ls/\(X.heap.size<=base/\base+4<=m)))):=fun X hX=>
     replay_any wd 59 #[.agg #[.slice a ss.length c,.slice b tt.length d]] #[] (ss++tt) X hwd.1 hwd.2 (by omega) (fun s hx=>by rcases List.mem_append.1 hx with h|h;exact hs s h;exact ht s h) (hE.below hX) (enters_of func59 (by kernel_rfl) rfl) (fun V hV=>by
      have hb:=hX.trans (hV.mono hX.size);have h1:=all_iter a b c d ss tt X.heap.size V (((HR.out X hX).1).below hV) (((HR.out X hX).2).below hV) hV.size (by unfold maxLen;omega) (by unfold maxLen;omega);simpa using h1)
    have HG:Hid ((1<=wd/\wd<=8)/\(0<=lim/\lim<=1000000)/\okLog ss tt=true):=⟨hwd,hlim,hlog⟩;clear hE hs ht;go_enter func21,ntmps21;go_wp2_with fail;rw[←HW.out];refine Calls.mono HC1.out ?_;rintro e w1 ⟨rfl,hw1⟩;replace hw1:=hw1.symm;subst hw1;go_wp2_with fail;refine Calls.mono HC2.out ?_;rintro e w1 ⟨rfl,hw1⟩;replace hw1:=hw1.symm;subst hw1;go_wp2_with fail;refine Calls.mono HC3.out ?_
    rintro e w2 ⟨rfl,hb2⟩;have x2:=CellsAt.below HX.out hb2;have HX2:Hid (CellsAt w2 w.heap.size [.slice a ss.length c,.slice b tt.length d]):=x2
    have HZ2:Hid (CellsAt w2 (w.heap.size+1) [.int .i64 0,.int .i64 0,.slice none 0 0,.slice none 0 0,.int .i64 0,.int .i64 0,.int .i64 0,.int .i64 0,.slice none 0 0,.slice none 0 0,.slice none 0 0,.int .i64 0,.slice none 0 0,.slice none 0 0,.int .i64 0,.int .i64 0,.int .i64 0]):=CellsAt.below (v:=.int .i64 0) HZ.out hb2;have z2:w.heap.size+2<=w2.heap.size:=by have:=hb2.size;omega
    have HB2:Hid (Below w.heap.size w w2):=bW.trans (hb2.mono bW.size);clear y0 y1 HC1 HC2 HC3 hb2 HW HX HZ;obtain⟨y0,y1⟩:=CellsAt.c2 x2 0 1;clear x2;go_wp2_with fail;refine(diskOf_any a b ss.length tt.length c d w2).mono ?_;rintro e w3 ⟨rfl,hb3⟩;have HX3:Hid (CellsAt w3 w.heap.size [.slice a ss.length c,.slice b tt.length d]):=CellsAt.below HX2.out hb3
    have HZ3:Hid (CellsAt w3 (w.heap.size+1) [.int .i64 0,.int .i64 0,.slice none 0 0,.slice none 0 0,.int .i64 0,.int .i64 0,.int .i64 0,.int .i64 0,.slice none 0 0,.slice none 0 0,.slice none 0 0,.int .i64 0,.slice none 0 0,.slice none 0 0,.int .i64 0,.int .i64 0,.int .i64 0]):=CellsAt.below (v:=.int .i64 0) HZ2.out hb3;have z3:=hb3.size
    have HB3:Hid (Below w.heap.size w w3):=HB2.out.trans (hb3.mono HB2.out.size);clear y0 y1 hb3 HX2 HZ2 HB2;go_wp2_with fail;refine(HP.out w3 HB3.out).mono ?_;rintro e w4 ⟨hb4,⟨n,hno,rfl⟩|⟨r,dd,m,O,P,L,base,hrun,rfl,hdr,hbase⟩⟩
    ·have HZ4:Hid (CellsAt w4 (w.heap.size+1) [.int .i64 0,.int .i64 0,.slice none 0 0,.slice none 0 0,.int .i64 0,.int .i64 0,.int .i64 0,.int .i64 0,.slice none 0 0,.slice none 0 0,.slice none 0 0,.int .i64 0,.slice none 0 0,.slice none 0 0,.int .i64 0,.int .i64 0,.int .i64 0]):=CellsAt.below (v:=.int .i64 0) HZ3.out hb4
     have HB4:Hid (Below w.heap.size w w4):=HB3.out.trans (hb4.mono HB3.out.size);have hn1:0<(n:Int):=by obtain⟨j,_,_,rfl,_⟩:=hno;omega
     have HNo:Hid (OTo wd lim ss tt 2 v0):=.inr ⟨HG.out,.inl ⟨⟨n,hno⟩,rfl,rfl⟩⟩;clear hno HX3 HZ3 HB3 HP HR hb4
     have hone:(#[.int .i64 0,.int .i64 0,.slice none 0 0,.slice none 0 0,.int .i64 0,.int .i64 0,.int .i64 0,.int .i64 0,.slice none 0 0,.slice none 0 0,.slice none 0 0,.int .i64 0,.slice none 0 0,.slice none 0 0,.int .i64 0,.int .i64 0,.int .i64 0]:Array Value).all (·.oneCell')=true:=by simp[Value.oneCell']
     have hth:w4.there (w.heap.size+1) 0 17:=(HZ4.out).there;have HIn:Hid _:=And.intro hone hth;obtain⟨W9,hW9⟩:∃X,X=w4.setCells (w.heap.size+1) 0 [.int .i64 0,.int .i64 0,.slice none 0 0,.slice none 0 0,.int .i64 0,.int .i64 0,.int .i64 0,.int .i64 0,.slice none 0 0,.slice none 0 0,.slice none 0 0,.int .i64 0,.slice none 0 0,.slice none 0 0,.int .i64 0,.int .i64 0,.int .i64 0]:=⟨_,rfl⟩
     have x9:CellsAt W9 (w.heap.size+1) [.int .i64 0,.int .i64 0,.slice none 0 0,.slice none 0 0,.int .i64 0,.int .i64 0,.int .i64 0,.int .i64 0,.slice none 0 0,.slice none 0 0,.slice none 0 0,.int .i64 0,.slice none 0 0,.slice none 0 0,.int .i64 0,.int .i64 0,.int .i64 0]:=by rw[hW9];exact(HZ4.out).setAll _ rfl
     have b9:Below w.heap.size w W9:=(HB4.out).trans (by rw[hW9];exact(tn_cells _ _ _ _).below (HB4.out).size (by simp));have HW9:Hid _:=hW9;clear hone hth hW9
     go_wp2_with (refine wpList_store_mid rfl 44 _ _ rfl (w.heap.size+1) 0 #[.int .i64 0,.int .i64 0,.slice none 0 0,.slice none 0 0,.int .i64 0,.int .i64 0,.int .i64 0,.int .i64 0,.slice none 0 0,.slice none 0 0,.slice none 0 0,.int .i64 0,.slice none 0 0,.slice none 0 0,.int .i64 0,.int .i64 0,.int .i64 0] rfl rfl HIn.out.2 (by kernel_rfl) HIn.out.1 ?_);rw[←HW9.out]
     refine bodyPost_ret (res_cell2 results21 _ _ (w.heap.size+1) [.int .i64 0,.int .i64 0,.slice none 0 0,.slice none 0 0,.int .i64 0,.int .i64 0,.int .i64 0,.int .i64 0,.slice none 0 0,.slice none 0 0,.slice none 0 0,.int .i64 0,.slice none 0 0,.slice none 0 0,.int .i64 0,.int .i64 0,.int .i64 0] _ rfl rfl x9.range underlying44 rfl (by kernel_rfl)) rfl ?_
     exact⟨2,v0,_,_,_,_,_,_,_,[],HNo.out,rfl,VAns.nil _ _,b9⟩
    ·have HX4:Hid (CellsAt w4 w.heap.size [.slice a ss.length c,.slice b tt.length d]):=CellsAt.below HX3.out hb4
     have HZ4:Hid (CellsAt w4 (w.heap.size+1) [.int .i64 0,.int .i64 0,.slice none 0 0,.slice none 0 0,.int .i64 0,.int .i64 0,.int .i64 0,.int .i64 0,.slice none 0 0,.slice none 0 0,.slice none 0 0,.int .i64 0,.slice none 0 0,.slice none 0 0,.int .i64 0,.int .i64 0,.int .i64 0]):=CellsAt.below (v:=.int .i64 0) HZ3.out hb4
     have HB4:Hid (Below w.heap.size w w4):=HB3.out.trans (hb4.mono HB3.out.size);have hro:=hrun.ok (r0_ok hwd.1 hwd.2);have HYes:Hid (OTo wd lim ss tt 0 (openV wd lim ss tt r)):=.inr ⟨HG.out,.inr ⟨r,hrun,rfl,rfl⟩⟩
     have HSt:Hid (∀X,Below w4.heap.size w4 X->Calls prog 47 #[.pointer (some ⟨dd,0,none⟩)] X fun e w'=>∃T P' L' rs,e=.returned (.agg #[.int .i64 wd,.int .i64 r.now,.int .i64 r.given,.int .i64 r.births,T,P',L'])/\SAns w' X.heap.size T P' L' rs r.ks r.ps r.ls/\Below X.heap.size X w'):=fun X hX=>
      state_any base dd m O P L wd r.now r.given r.births r.ks r.ps r.ls X (hdr.below hX) hro.kso.nd hro.kso.sz hro.kso.len hro.np hro.nl hro.r30
     have HC:Hid _:=copyOfLog_any a b c d ss tt w4 (HR.out w4 HB4.out).1 (HR.out w4 HB4.out).2 hl hl';have z4:=hb4.size;obtain⟨y0,y1⟩:=CellsAt.c2 HX4.out 0 1;clear hrun hdr hro hbase hb4 HX3 HZ3 HB3 HP HR HG;go_wp2_with fail;refine Calls.mono HC.out ?_;rintro e w5 ⟨x,cx,y,cy,rfl,ho5,ho5',hne5,hb5⟩;clear y0 y1 HC;go_wp2_with fail;refine(HSt.out w5 hb5).mono ?_
     rintro e w6 ⟨T,P',L',rs,rfl,hS6,hb6⟩;have z5:=hb5.size;have z6:=hb6.size;obtain⟨ta,tc,pa,pc,la,lc,rfl,rfl,rfl,_⟩:=hS6.rows;have hV6:VAns w6 w4.heap.size (.slice x ss.length cx) (.slice y tt.length cy) (.slice ta r.ks.length tc) (.slice pa r.ps.length pc) (.slice la r.ls.length lc) (.slice none 0 0) (.slice none 0 0) rs (openV wd lim ss tt r):=
      VAns.of (ORow.own (own_below ho5 hb6)) (ORow.own (own_below ho5' hb6)) (fun g h1=>hne5 g h1) (n1:=w5.heap.size) (fun g hg=>by rcases hg with hg|hg;exact(own_lt ho5 hg).2;exact(own_lt ho5' hg).2) hS6 z5 (n2:=w6.heap.size) hS6.lts (ORow.nil _ _) (ORow.nil _ _) (fun g hg=>by rcases hg with hg|hg<;>cases hg) z6 (fun g hg=>by cases hg)
     have HB6:Hid (Below w.heap.size w w6):=(HB4.out.trans (hb5.mono HB4.out.size)).trans (hb6.mono (Nat.le_trans HB4.out.size z5))
     have HZ6:Hid (CellsAt w6 (w.heap.size+1) [.int .i64 0,.int .i64 0,.slice none 0 0,.slice none 0 0,.int .i64 0,.int .i64 0,.int .i64 0,.int .i64 0,.slice none 0 0,.slice none 0 0,.slice none 0 0,.int .i64 0,.slice none 0 0,.slice none 0 0,.int .i64 0,.int .i64 0,.int .i64 0]):=CellsAt.below (v:=.int .i64 0) (CellsAt.below (v:=.int .i64 0) HZ4.out hb5) hb6
     have hone:(#[.int .i64 wd,.int .i64 lim,.slice x ss.length cx,.slice y tt.length cy,.int .i64 wd,.int .i64 r.now,.int .i64 r.given,.int .i64 r.births,.slice ta r.ks.length tc,.slice pa r.ps.length pc,.slice la r.ls.length lc,.int .i64 0,.slice none 0 0,.slice none 0 0,.int .i64 0,.int .i64 0,.int .i64 0]:Array Value).all (·.oneCell')=true:=by simp[Value.oneCell']
     have hth:w6.there (w.heap.size+1) 0 17:=HZ6.out.there;have HIn:Hid _:=And.intro hone hth
     obtain⟨W9,hW9⟩:∃X,X=w6.setCells (w.heap.size+1) 0 [.int .i64 wd,.int .i64 lim,.slice x ss.length cx,.slice y tt.length cy,.int .i64 wd,.int .i64 r.now,.int .i64 r.given,.int .i64 r.births,.slice ta r.ks.length tc,.slice pa r.ps.length pc,.slice la r.ls.length lc,.int .i64 0,.slice none 0 0,.slice none 0 0,.int .i64 0,.int .i64 0,.int .i64 0]:=⟨_,rfl⟩
     have x9:CellsAt W9 (w.heap.size+1) [.int .i64 wd,.int .i64 lim,.slice x ss.length cx,.slice y tt.length cy,.int .i64 wd,.int .i64 r.now,.int .i64 r.given,.int .i64 r.births,.slice ta r.ks.length tc,.slice pa r.ps.length pc,.slice la r.ls.length lc,.int .i64 0,.slice none 0 0,.slice none 0 0,.int .i64 0,.int .i64 0,.int .i64 0]:=by rw[hW9];exact HZ6.out.setAll _ rfl
     have t9:Tn [w.heap.size+1] w6 W9:=by rw[hW9];exact tn_cells _ _ _ _
     have b9:Below w.heap.size w W9:=HB6.out.trans (t9.below HB6.out.size (by simp))
     have HV9:Hid (VAns W9 w.heap.size (.slice x ss.length cx) (.slice y tt.length cy) (.slice ta r.ks.length tc) (.slice pa r.ps.length pc) (.slice la r.ls.length lc) (.slice none 0 0) (.slice none 0 0) rs (openV wd lim ss tt r)):=(hV6.stays t9 (fun g hg hin=>by have:=hV6.lo g hin;simp at hg;omega)).mono (by omega);have HW9:Hid _:=hW9
     clear hone hth hW9 hV6 hS6 ho5 ho5' hne5 hb5 hb6 t9 HSt HZ4 HX4 HB4
     go_wp2_with (refine wpList_store_mid rfl 44 _ _ rfl (w.heap.size+1) 0 #[.int .i64 wd,.int .i64 lim,.slice x ss.length cx,.slice y tt.length cy,.int .i64 wd,.int .i64 r.now,.int .i64 r.given,.int .i64 r.births,.slice ta r.ks.length tc,.slice pa r.ps.length pc,.slice la r.ls.length lc,.int .i64 0,.slice none 0 0,.slice none 0 0,.int .i64 0,.int .i64 0,.int .i64 0] rfl rfl HIn.out.2 (by kernel_rfl) HIn.out.1 ?_)
     rw[←HW9.out]
     refine bodyPost_ret (res_cell2 results21 _ _ (w.heap.size+1) [.int .i64 wd,.int .i64 lim,.slice x ss.length cx,.slice y tt.length cy,.int .i64 wd,.int .i64 r.now,.int .i64 r.given,.int .i64 r.births,.slice ta r.ks.length tc,.slice pa r.ps.length pc,.slice la r.ls.length lc,.int .i64 0,.slice none 0 0,.slice none 0 0,.int .i64 0,.int .i64 0,.int .i64 0] _ rfl rfl x9.range underlying44 rfl (by kernel_rfl)) rfl ?_
     exact⟨0,openV wd lim ss tt r,_,_,_,_,_,_,_,rs,HYes.out,rfl,HV9.out,b9⟩
   |false=>
    rw[hlog] at HC3;have HNo:Hid (OTo wd lim ss tt 1 v0):=.inl ⟨fun h=>by rw[hlog] at h;exact absurd h.2.2 (by simp),rfl,rfl⟩;go_enter func21,ntmps21;go_wp2_with fail;rw[←HW.out];refine Calls.mono HC1.out ?_;rintro e w1 ⟨rfl,hw1⟩;replace hw1:=hw1.symm;subst hw1;go_wp2_with fail;refine Calls.mono HC2.out ?_;rintro e w1 ⟨rfl,hw1⟩;replace hw1:=hw1.symm;subst hw1;go_wp2_with fail
    refine Calls.mono HC3.out ?_;rintro e w4 ⟨rfl,hb4⟩;have HZ4:Hid (CellsAt w4 (w.heap.size+1) [.int .i64 0,.int .i64 0,.slice none 0 0,.slice none 0 0,.int .i64 0,.int .i64 0,.int .i64 0,.int .i64 0,.slice none 0 0,.slice none 0 0,.slice none 0 0,.int .i64 0,.slice none 0 0,.slice none 0 0,.int .i64 0,.int .i64 0,.int .i64 0]):=CellsAt.below (v:=.int .i64 0) HZ.out hb4
    have HB4:Hid (Below w.heap.size w w4):=bW.trans (hb4.mono bW.size);clear y0 y1 hb4 HX HZ
    have hone:(#[.int .i64 0,.int .i64 0,.slice none 0 0,.slice none 0 0,.int .i64 0,.int .i64 0,.int .i64 0,.int .i64 0,.slice none 0 0,.slice none 0 0,.slice none 0 0,.int .i64 0,.slice none 0 0,.slice none 0 0,.int .i64 0,.int .i64 0,.int .i64 0]:Array Value).all (·.oneCell')=true:=by simp[Value.oneCell']
    have hth:w4.there (w.heap.size+1) 0 17:=(HZ4.out).there;have HIn:Hid _:=And.intro hone hth;obtain⟨W9,hW9⟩:∃X,X=w4.setCells (w.heap.size+1) 0 [.int .i64 0,.int .i64 0,.slice none 0 0,.slice none 0 0,.int .i64 0,.int .i64 0,.int .i64 0,.int .i64 0,.slice none 0 0,.slice none 0 0,.slice none 0 0,.int .i64 0,.slice none 0 0,.slice none 0 0,.int .i64 0,.int .i64 0,.int .i64 0]:=⟨_,rfl⟩
    have x9:CellsAt W9 (w.heap.size+1) [.int .i64 0,.int .i64 0,.slice none 0 0,.slice none 0 0,.int .i64 0,.int .i64 0,.int .i64 0,.int .i64 0,.slice none 0 0,.slice none 0 0,.slice none 0 0,.int .i64 0,.slice none 0 0,.slice none 0 0,.int .i64 0,.int .i64 0,.int .i64 0]:=by rw[hW9];exact(HZ4.out).setAll _ rfl
    have b9:Below w.heap.size w W9:=(HB4.out).trans (by rw[hW9];exact(tn_cells _ _ _ _).below (HB4.out).size (by simp));have HW9:Hid _:=hW9;clear hone hth hW9
    go_wp2_with (refine wpList_store_mid rfl 44 _ _ rfl (w.heap.size+1) 0 #[.int .i64 0,.int .i64 0,.slice none 0 0,.slice none 0 0,.int .i64 0,.int .i64 0,.int .i64 0,.int .i64 0,.slice none 0 0,.slice none 0 0,.slice none 0 0,.int .i64 0,.slice none 0 0,.slice none 0 0,.int .i64 0,.int .i64 0,.int .i64 0] rfl rfl HIn.out.2 (by kernel_rfl) HIn.out.1 ?_);rw[←HW9.out]
    refine bodyPost_ret (res_cell2 results21 _ _ (w.heap.size+1) [.int .i64 0,.int .i64 0,.slice none 0 0,.slice none 0 0,.int .i64 0,.int .i64 0,.int .i64 0,.int .i64 0,.slice none 0 0,.slice none 0 0,.slice none 0 0,.int .i64 0,.slice none 0 0,.slice none 0 0,.int .i64 0,.int .i64 0,.int .i64 0] _ rfl rfl x9.range underlying44 rfl (by kernel_rfl)) rfl ?_
    exact⟨1,v0,_,_,_,_,_,_,_,[],HNo.out,rfl,VAns.nil _ _,b9⟩
  ·rw[decide_eq_false hlim] at HC2
   have HNo:Hid (OTo wd lim ss tt 1 v0):=.inl ⟨fun h=>hlim h.2.1,rfl,rfl⟩;go_enter func21,ntmps21;go_wp2_with fail;rw[←HW.out];refine Calls.mono HC1.out ?_;rintro e w1 ⟨rfl,hw1⟩;replace hw1:=hw1.symm;subst hw1;go_wp2_with fail;refine Calls.mono HC2.out ?_;rintro e w1 ⟨rfl,hw1⟩;replace hw1:=hw1.symm;subst hw1;clear y0 y1 HX
   have hone:(#[.int .i64 0,.int .i64 0,.slice none 0 0,.slice none 0 0,.int .i64 0,.int .i64 0,.int .i64 0,.int .i64 0,.slice none 0 0,.slice none 0 0,.slice none 0 0,.int .i64 0,.slice none 0 0,.slice none 0 0,.int .i64 0,.int .i64 0,.int .i64 0]:Array Value).all (·.oneCell')=true:=by simp[Value.oneCell']
   have hth:W.there (w.heap.size+1) 0 17:=(HZ.out).there;have HIn:Hid _:=And.intro hone hth;obtain⟨W9,hW9⟩:∃X,X=W.setCells (w.heap.size+1) 0 [.int .i64 0,.int .i64 0,.slice none 0 0,.slice none 0 0,.int .i64 0,.int .i64 0,.int .i64 0,.int .i64 0,.slice none 0 0,.slice none 0 0,.slice none 0 0,.int .i64 0,.slice none 0 0,.slice none 0 0,.int .i64 0,.int .i64 0,.int .i64 0]:=⟨_,rfl⟩
   have x9:CellsAt W9 (w.heap.size+1) [.int .i64 0,.int .i64 0,.slice none 0 0,.slice none 0 0,.int .i64 0,.int .i64 0,.int .i64 0,.int .i64 0,.slice none 0 0,.slice none 0 0,.slice none 0 0,.int .i64 0,.slice none 0 0,.slice none 0 0,.int .i64 0,.int .i64 0,.int .i64 0]:=by rw[hW9];exact(HZ.out).setAll _ rfl
   have b9:Below w.heap.size w W9:=(bW).trans (by rw[hW9];exact(tn_cells _ _ _ _).below (bW).size (by simp));have HW9:Hid _:=hW9;clear hone hth hW9
   go_wp2_with (refine wpList_store_mid rfl 44 _ _ rfl (w.heap.size+1) 0 #[.int .i64 0,.int .i64 0,.slice none 0 0,.slice none 0 0,.int .i64 0,.int .i64 0,.int .i64 0,.int .i64 0,.slice none 0 0,.slice none 0 0,.slice none 0 0,.int .i64 0,.slice none 0 0,.slice none 0 0,.int .i64 0,.int .i64 0,.int .i64 0] rfl rfl HIn.out.2 (by kernel_rfl) HIn.out.1 ?_);rw[←HW9.out]
   refine bodyPost_ret (res_cell2 results21 _ _ (w.heap.size+1) [.int .i64 0,.int .i64 0,.slice none 0 0,.slice none 0 0,.int .i64 0,.int .i64 0,.int .i64 0,.int .i64 0,.slice none 0 0,.slice none 0 0,.slice none 0 0,.int .i64 0,.slice none 0 0,.slice none 0 0,.int .i64 0,.int .i64 0,.int .i64 0] _ rfl rfl x9.range underlying44 rfl (by kernel_rfl)) rfl ?_
   exact⟨1,v0,_,_,_,_,_,_,_,[],HNo.out,rfl,VAns.nil _ _,b9⟩
 ·rw[decide_eq_false hwd] at HC1
  have HNo:Hid (OTo wd lim ss tt 1 v0):=.inl ⟨fun h=>hwd h.1,rfl,rfl⟩;go_enter func21,ntmps21;go_wp2_with fail;rw[←HW.out];refine Calls.mono HC1.out ?_;rintro e w1 ⟨rfl,hw1⟩;replace hw1:=hw1.symm;subst hw1;clear y0 y1 HX
  have hone:(#[.int .i64 0,.int .i64 0,.slice none 0 0,.slice none 0 0,.int .i64 0,.int .i64 0,.int .i64 0,.int .i64 0,.slice none 0 0,.slice none 0 0,.slice none 0 0,.int .i64 0,.slice none 0 0,.slice none 0 0,.int .i64 0,.int .i64 0,.int .i64 0]:Array Value).all (·.oneCell')=true:=by simp[Value.oneCell']
  have hth:W.there (w.heap.size+1) 0 17:=(HZ.out).there;have HIn:Hid _:=And.intro hone hth;obtain⟨W9,hW9⟩:∃X,X=W.setCells (w.heap.size+1) 0 [.int .i64 0,.int .i64 0,.slice none 0 0,.slice none 0 0,.int .i64 0,.int .i64 0,.int .i64 0,.int .i64 0,.slice none 0 0,.slice none 0 0,.slice none 0 0,.int .i64 0,.slice none 0 0,.slice none 0 0,.int .i64 0,.int .i64 0,.int .i64 0]:=⟨_,rfl⟩
  have x9:CellsAt W9 (w.heap.size+1) [.int .i64 0,.int .i64 0,.slice none 0 0,.slice none 0 0,.int .i64 0,.int .i64 0,.int .i64 0,.int .i64 0,.slice none 0 0,.slice none 0 0,.slice none 0 0,.int .i64 0,.slice none 0 0,.slice none 0 0,.int .i64 0,.int .i64 0,.int .i64 0]:=by rw[hW9];exact(HZ.out).setAll _ rfl
  have b9:Below w.heap.size w W9:=(bW).trans (by rw[hW9];exact(tn_cells _ _ _ _).below (bW).size (by simp));have HW9:Hid _:=hW9;clear hone hth hW9
  go_wp2_with (refine wpList_store_mid rfl 44 _ _ rfl (w.heap.size+1) 0 #[.int .i64 0,.int .i64 0,.slice none 0 0,.slice none 0 0,.int .i64 0,.int .i64 0,.int .i64 0,.int .i64 0,.slice none 0 0,.slice none 0 0,.slice none 0 0,.int .i64 0,.slice none 0 0,.slice none 0 0,.int .i64 0,.int .i64 0,.int .i64 0] rfl rfl HIn.out.2 (by kernel_rfl) HIn.out.1 ?_);rw[←HW9.out]
  refine bodyPost_ret (res_cell2 results21 _ _ (w.heap.size+1) [.int .i64 0,.int .i64 0,.slice none 0 0,.slice none 0 0,.int .i64 0,.int .i64 0,.int .i64 0,.int .i64 0,.slice none 0 0,.slice none 0 0,.slice none 0 0,.int .i64 0,.slice none 0 0,.slice none 0 0,.int .i64 0,.int .i64 0,.int .i64 0] _ rfl rfl x9.range underlying44 rfl (by kernel_rfl)) rfl ?_
  exact⟨1,v0,_,_,_,_,_,_,_,[],HNo.out,rfl,VAns.nil _ _,b9⟩
structure LFit (ss tt:List ByteArray):Prop where
 s:ss.length<=1048576
 t:tt.length<=1048576
 ss:∀s∈ss,s.size<=1048576
 tt:∀s∈tt,s.size<=1048576
def LRx (ss tt:List ByteArray) (L:Nat) (X:World) (cs:List Value):Prop:=
 ∃g k c d,cs=[.slice (some ⟨g,0,none⟩) ss.length c,.slice (some ⟨k,0,none⟩) tt.length d]/\SRow X L (some ⟨g,0,none⟩) ss/\SRow X L (some ⟨k,0,none⟩) tt
def LOx (ss tt:List ByteArray) (lo N:Nat) (X:World) (cs:List Value):Prop:=
 (N<=X.heap.size/\lo<=X.heap.size)/\∃g k c d,cs=[.slice (some ⟨g,0,none⟩) ss.length c,.slice (some ⟨k,0,none⟩) tt.length d]/\ORow X lo (.slice (some ⟨g,0,none⟩) ss.length c) ss/\ORow X lo (.slice (some ⟨k,0,none⟩) tt.length d) tt/\g≠k/\g<N/\k<N
theorem ORow.got {w:World} {base n c:Nat} {a:Option Addr} {ss:List ByteArray} (h:ORow w base (.slice a n c) ss):SRow w w.heap.size a ss:=by
 obtain⟨a',c',e,hr⟩:=h.row;cases e;exact hr
theorem kndLx (ss tt:List ByteArray) (hf:LFit ss tt):Knd 2 1000 23 24 (LRx ss tt) (LOx ss tt) (fun _ _ _ _ _=>True):=by
 refine⟨?_,?_,?_,?_,?_,?_,?_,?_⟩
 ·rintro X cs ds ⟨g,k,c,d,rfl,h1,h2⟩ ⟨g',k',c',d',rfl,h1',h2'⟩
  exact eqLog_yes _ _ _ _ _ _ _ _ ss tt X h1 h2 h1' h2' hf.s hf.t
 ·rintro lo N X cs n ⟨hN,g,k,c,d,rfl,h1,h2,hne,hg,hk⟩ hn1 hn2
  have q1:=hf.s;have q2:=hf.t;refine(markLogO lo n _ _ ss tt X h1 h2 (fun b hb e=>hne (by have h1:g=b:=Option.some.inj hb;have h2:k=b:=Option.some.inj e;omega)) hn1 (by omega)).mono ?_;rintro e X' ⟨rfl,_,_,ht⟩;have hl:∀b∈(sBlk (.slice (some ⟨g,0,none⟩) ss.length c)).toList++(sBlk (.slice (some ⟨k,0,none⟩) tt.length d)).toList,lo<=b/\b<N:=by
   intro b hb;rw[List.mem_append,Option.mem_toList,Option.mem_toList] at hb;rcases hb with hb|hb
   ·obtain rfl:g=b:=Option.some.inj hb
    exact⟨(h1.blk rfl).1,hg⟩
   ·obtain rfl:k=b:=Option.some.inj hb
    exact⟨(h2.blk rfl).1,hk⟩
  exact⟨⟨_,rfl,by omega,by omega,trivial⟩,ht.below hN.2 (fun b hb=>(hl b hb).1),fun q hq hq2=>ht.block q hq2 (fun e=>by have:=(hl q e).2;omega)⟩
 ·rintro L X X' cs ⟨g,k,c,d,rfl,h1,h2⟩ hb
  exact⟨g,k,c,d,rfl,h1.below hb,h2.below hb⟩
 ·rintro L L' X cs ⟨g,k,c,d,rfl,h1,h2⟩ hl
  exact⟨g,k,c,d,rfl,h1.mono hl,h2.mono hl⟩
 ·rintro lo N X X' cs ⟨hN,g,k,c,d,rfl,h1,h2,hne,hg,hk⟩ hz hs
  exact⟨⟨Nat.le_trans hN.1 hz,Nat.le_trans hN.2 hz⟩,g,k,c,d,rfl,h1.stays hz (fun b hb=>by obtain rfl:g=b:=Option.some.inj hb;exact hs g (h1.blk rfl).1 hg),h2.stays hz (fun b hb=>by obtain rfl:k=b:=Option.some.inj hb;exact hs k (h2.blk rfl).1 hk),hne,hg,hk⟩
 ·rintro lo N X X' cs K _ _ _
  trivial
 ·rintro lo N X cs ⟨hN,g,k,c,d,rfl,h1,h2,_⟩
  exact⟨hN.1,g,k,c,d,rfl,h1.got,h2.got⟩
 ·rintro L X cs ⟨g,k,c,d,rfl,_,_⟩
  exact⟨rfl,by simp[Value.oneCell']⟩
theorem toLog_x (a b:Option Addr) (c d:Nat) (ss tt:List ByteArray) (w X:World) (hr:SRow w w.heap.size a ss) (hq:SRow w w.heap.size b tt) (hf:LFit ss tt) (hX:Below w.heap.size w X):
 Calls prog 20 #[.agg #[.slice a ss.length c,.slice b tt.length d]] X fun e X'=>∃cs:List Value,e=.returned (.agg cs.toArray)/\LRx ss tt X'.heap.size X' cs/\LOx ss tt X.heap.size X'.heap.size X' cs/\Below X.heap.size X X':=by
 refine(toLog_any a b c d ss tt X (hr.below' hX) (hq.below' hX) hf.s hf.t).mono ?_;rintro e X' ⟨g,k,rfl,h1,h2,h3,h4,h5⟩;have o3:=ORow.own h3;have o4:=ORow.own h4;exact⟨_,rfl,⟨g,k,_,_,rfl,o3.got,o4.got⟩,⟨⟨Nat.le_refl _,h5.size⟩,g,k,_,_,rfl,o3,o4,by omega,(o3.blk rfl).2,(o4.blk rfl).2⟩,h5⟩
theorem szLog_x (a b:Option Addr) (c d:Nat) (ss tt:List ByteArray) (w X:World) (hr:SRow w w.heap.size a ss) (hq:SRow w w.heap.size b tt) (hl:ss.length<=maxLen) (hs:∀s∈ss,s.size<=maxLen) (hl':tt.length<=maxLen) (hs':∀s∈tt,s.size<=maxLen) (hX:Below w.heap.size w X):
 Calls prog 18 #[.agg #[.slice a ss.length c,.slice b tt.length d],.int .i64 1048576] X fun e X'=>∃r:Int,e=.returned (.int .i64 r)/\Below X.heap.size X X'/\(0<=r->LFit ss tt):=by
 by_cases hfit:(ss.length:Int)+bulk ss+tt.length+bulk tt<=1048576
 ·refine(szLog_yes a b c d ss tt 1048576 X (hr.below' hX) (hq.below' hX) (by omega) hfit).mono ?_
  rintro e X' ⟨rfl,hb⟩;refine⟨_,rfl,hb,fun _=>⟨by omega,by omega,fun s hm=> ?_,fun s hm=> ?_⟩⟩
  ·obtain⟨i,hi⟩:=List.getElem?_of_mem hm
   have:=le_bulk ss i s hi;omega
  ·obtain⟨i,hi⟩:=List.getElem?_of_mem hm
   have:=le_bulk tt i s hi;omega
 ·refine(szLog_no a b c d ss tt 1048576 X (hr.below' hX) (hq.below' hX) hl hs hl' hs' (by omega) (by omega) (by omega)).mono ?_
  rintro e X' ⟨rfl,hb⟩;exact⟨_,rfl,hb,fun h=>by omega⟩
section
attribute [local go_sem] Oper.semAt_some
end
def crashL (ss tt:List ByteArray) (keep:Int):List ByteArray:=if okLog ss tt then ss++tt.take (min (max keep 0) tt.length).toNat else []
theorem v0_fit:VFit v0:=⟨by simp[v0],by simp[v0],by simp[v0],by simp[v0],⟨by simp[v0],by simp[v0],by simp[v0],by simp[v0]⟩,⟨by simp[v0],by simp[v0]⟩,by simp[v0,refsN]⟩
theorem OTo.fit {wd lim:Int} {ss tt:List ByteArray} {c:Int} {v:Vd} (h:OTo wd lim ss tt c v) (hf:LFit ss tt):VFit v:=by
 rcases h with⟨_,_,rfl⟩|⟨g,⟨_,_,rfl⟩|⟨r,hr,_,rfl⟩⟩
 ·exact v0_fit
 ·exact v0_fit
 ·have ho:=hr.ok (r0_ok g.1.1 g.1.2)
  have h1:=ho.kso.len;have h2:=ho.np;have h3:=ho.nl;have h4:∀k∈r.ks,k.refs.length<=30:=ho.r30;have h5:=refsN_le h4;exact⟨hf.s,hf.t,hf.ss,hf.tt,⟨by show r.ks.length<=_;omega,fun k hk=>by have:=h4 k hk;omega,by show r.ps.length<=_;omega,by show r.ls.length<=_;omega⟩,⟨by simp[openV],by simp[openV]⟩,by show refsN r.ks<=_;omega⟩
def vCs (v:Vd) (S U T P L Q M:Value):List Value:=[.int .i64 v.wd,.int .i64 v.lim,S,U,.int .i64 v.sw,.int .i64 v.now,.int .i64 v.given,.int .i64 v.births,T,P,L,.int .i64 v.ph,Q,M,.int .i64 v.top,.int .i64 v.at_,.int .i64 v.ro]
def VRa (v:Vd) (L:Nat) (X:World) (cs:List Value):Prop:=
 ∃a:Va,cs=vCs v (.slice a.sa v.ss.length a.sc) (.slice a.ta v.tt.length a.tc) (.slice a.ka v.ks.length a.kc) (.slice a.pa v.ps.length a.pc) (.slice a.la v.ls.length a.lc) (.slice a.qa v.qs.length a.qc) (.slice a.ma v.ms.length a.mc)/\VRows X L a v
def VOa (v u:Vd) (lo N:Nat) (X:World) (cs:List Value):Prop:=
 (N<=X.heap.size/\lo<=X.heap.size)/\∃S U T P L Q M rs,cs=vCs v S U T P L Q M/\VAns X lo S U T P L Q M rs u/\∀g∈vBl S U T P L Q M rs,g<N
theorem VAns.vra {X:World} {base:Nat} {S U T P L Q M:Value} {rs:List Value} {v:Vd} (h:VAns X base S U T P L Q M rs v):VRa v X.heap.size X (vCs v S U T P L Q M):=by
 obtain⟨sa,sc,rfl,h1⟩:=h.s.row;obtain⟨ua,uc,rfl,h2⟩:=h.u.row;obtain⟨ta,tc,pa,pc,la,lc,rfl,rfl,rfl,h3⟩:=h.st.rows;obtain⟨qa,qc,rfl,h4⟩:=h.q.row;obtain⟨ma,mc,rfl,h5⟩:=h.m.row;exact⟨⟨sa,sc,ua,uc,ta,tc,pa,pc,la,lc,qa,qc,ma,mc⟩,rfl,⟨h1,h2,h3,h4,h5⟩⟩
theorem SAns.at {w w':World} {base:Nat} {T P L:Value} {rs:List Value} {ks:List Kd} {ps:List Pd} {ls:List Ld} (h:SAns w base T P L rs ks ps ls) (hm:∀g∈blks T P L rs,w'.heap[g]?=w.heap[g]?):SAns w' base T P L rs ks ps ls:=
 ⟨h.len,own_same h.things (fun g hg=>hm g (by unfold blks;simp[hg])),fun i k r hk hr=>own_same (h.refs i k r hk hr) (fun g hg=>hm g (by unfold blks;simp only[List.mem_append,List.mem_filterMap];exact .inr (.inr (.inr ⟨r,List.mem_of_getElem? hr,hg⟩)))),own_same h.pins (fun g hg=>hm g (by unfold blks;simp[hg])),own_same h.leases (fun g hg=>hm g (by unfold blks;simp[hg])),h.nd⟩
theorem VOa.keep {v u:Vd} {lo N:Nat} {X X':World} {cs:List Value} (h:VOa v u lo N X cs) (hz:X.heap.size<=X'.heap.size) (hs:∀q,lo<=q->q<N->X'.heap[q]?=X.heap[q]?):VOa v u lo N X' cs:=by
 obtain⟨hN,S,U,T,P,L,Q,M,rs,rfl,h1,h2⟩:=h;refine⟨⟨Nat.le_trans hN.1 hz,Nat.le_trans hN.2 hz⟩,S,U,T,P,L,Q,M,rs,rfl,?_,h2⟩;have e:∀g∈vBl S U T P L Q M rs,X'.heap[g]?=X.heap[g]?:=fun g hg=>hs g (h1.lo g hg) (h2 g hg);have hb:∀g∈blks T P L rs,X'.heap[g]?=X.heap[g]?:=fun g hg=>e g (by unfold vBl;simp only[List.mem_append];exact .inr (.inl hg));unfold vBl at e
 simp only[List.mem_append,Option.mem_toList] at e;exact⟨h1.s.stays hz (fun g hg=>e g (.inl (.inl hg))),h1.u.stays hz (fun g hg=>e g (.inl (.inr hg))),h1.st.at hb,h1.q.stays hz (fun g hg=>e g (.inr (.inr (.inl hg)))),h1.m.stays hz (fun g hg=>e g (.inr (.inr (.inr hg)))),h1.nd⟩
theorem VFit.cnt {v:Vd} (h:VFit v):1+cntV v<=90000000:=by
 unfold cntV cntS;have:=h.s;have:=h.t;have:=h.st.k;have:=h.st.p;have:=h.st.l;have:=h.r.q;have:=h.r.m;have:=h.rn;omega
theorem kndVa (v:Vd) (hf:VFit v):Knd 17 1 22 25 (VRa v) (VOa v v) (fun lo N X cs K=>K=1+cntV v/\VOa v (markV 1 v) lo N X cs):=by
 refine⟨?_,?_,?_,?_,?_,?_,?_,?_⟩
 ·rintro X cs ds ⟨a,rfl,h1⟩ ⟨b,rfl,h2⟩
  exact eqVault_yes v a b X h1 h2 hf
 ·rintro lo N X cs k ⟨hN,S,U,T,P,L,Q,M,rs,rfl,h1,h2⟩ hk1 hk2
  obtain rfl:k=1:=by omega
  refine(markVaultO v lo 1 S U T P L Q M rs X h1 (by omega) (Nat.le_trans hf.cnt (by omega))).mono ?_;rintro e X' ⟨rfl,h3,h4⟩;exact⟨⟨1+cntV v,rfl,by omega,hf.cnt,rfl,⟨Nat.le_trans hN.1 h4.size,Nat.le_trans hN.2 h4.size⟩,S,U,T,P,L,Q,M,rs,rfl,h3,h2⟩,h4.below hN.2 h1.lo,fun q hq hq2=>h4.block q hq2 (fun e=>by have:=h2 q e;omega)⟩
 ·rintro L X X' cs ⟨a,rfl,h1⟩ hb
  exact⟨a,rfl,h1.keep hb⟩
 ·rintro L L' X cs ⟨a,rfl,h1⟩ hl
  exact⟨a,rfl,h1.mono hl⟩
 ·intro lo N X X' cs h hz hs
  exact h.keep hz hs
 ·rintro lo N X X' cs K ⟨rfl,h⟩ hz hs
  exact⟨rfl,h.keep hz hs⟩
 ·rintro lo N X cs ⟨hN,S,U,T,P,L,Q,M,rs,rfl,h1,_⟩
  exact⟨hN.1,h1.vra⟩
 ·rintro L X cs ⟨a,rfl,_⟩
  exact⟨rfl,by simp[vCs,Value.oneCell']⟩
theorem heldVa (v:Vd) (hf:VFit v) (lo N:Nat) (X:World) (cs:List Value) (K:Nat) (h:K=1+cntV v/\VOa v (markV 1 v) lo N X cs):
 Calls prog 26 #[.agg cs.toArray,.int .i64 1] X fun e X'=>e=.returned (.int .i64 K)/\Below X.heap.size X X':=by
 obtain⟨rfl,hN,S,U,T,P,L,Q,M,rs,rfl,h1,_⟩:=h;exact heldVaultO v lo 1 S U T P L Q M rs X h1 (by omega) (Nat.le_trans hf.cnt (by omega))
theorem VAns.voa {X:World} {base:Nat} {S U T P L Q M:Value} {rs:List Value} {v:Vd} (h:VAns X base S U T P L Q M rs v) (hb:base<=X.heap.size):VOa v v base X.heap.size X (vCs v S U T P L Q M):=
 ⟨⟨Nat.le_refl _,hb⟩,S,U,T,P,L,Q,M,rs,rfl,h,h.lts⟩
theorem l7All_any (a b:Option Addr) (c d:Nat) (ss tt:List ByteArray) (w:World) (hr:SRow w w.heap.size a ss) (hq:SRow w w.heap.size b tt) (ha:a=none->ss.length=0/\c=0) (hb:b=none->tt.length=0/\d=0) (hl:ss.length<=1048576) (hl':tt.length<=1048576):
 Calls prog 54 #[.agg #[.slice a ss.length c,.slice b tt.length d]] w fun e w'=>∃g cap,e=.returned (.slice (some ⟨g,0,none⟩) (ss++tt).length cap)/\w'.ownsRow w.heap.size 9 1 (.slice (some ⟨g,0,none⟩) (ss++tt).length cap) (ss++tt).length ((ss++tt).map Value.string)/\Below w.heap.size w w':=by
 obtain⟨i0,hi,hz0,hz1,hz2⟩:=info_parts infoStr;obtain⟨W,hW⟩:∃W,W=w.alloc (.cells #[.slice a ss.length c,.slice b tt.length d] 40):=⟨_,rfl⟩;have bW:=(al1 hW).1;have zW:=(al1 hW).2.1;have x0:=(al1 hW).2.2;have bA:Below W.heap.size W (W.alloc (.cells #[] 9)):=(Below.refl _ _).alloc (Nat.le_refl _) _
 have oA:(W.alloc (.cells #[] 9)).drew.ownsRow (w.heap.size+1) 9 1 (.slice (some ⟨w.heap.size+1,0,none⟩) 0 0) 0 (([]:List ByteArray).map Value.string):=by
  have h1:=World.ownsRow_lit (base:=w.heap.size+1) (e:=9) (size:=1) W #[] 0 (by omega) (by unfold maxLen;omega) rfl;rw[zW] at h1;exact h1
 have rA:=(SRow.below hr (bW.trans (bA.drew.mono bW.size))).cellsO;have xA:=CellsAt.below x0 bA;obtain⟨y0,y1⟩:=CellsAt.c2 x0 0 1;obtain⟨z0,z1⟩:=CellsAt.c2 xA 0 1;have HW:Hid _:=hW;have HX:Hid _:=And.intro xA (bW.trans (bA.mono bW.size));have HQ:Hid (SRow w w.heap.size b tt):=hq;clear hW x0 xA hr hq;go_enter func54,ntmps54;go_upto_region 1 with fail;rw[←HW.out];clear HW
 go_region_law (first
  |(refine step_append_rowO (W.alloc (.cells #[] 9)).drew rfl (.tmp 3) (.tmp 5) 22 rfl (w.heap.size+1) 9 i0 (.string ⟨#[]⟩) 16 underlying22 hi hz0 hz1 hz2 rfl (w.heap.size+1) 0 0 [] rfl oA a ss.length c ss rfl rfl ha rA (by unfold maxLen;omega) (by omega) (by simp<;>omega) ?_;intro k6 cap6 w6 ho6 hg6 hat6 hlt6;simp only[Nat.zero_add,List.nil_append] at ho6;have x6:CellsAt w6 w.heap.size [.slice a ss.length c,.slice b tt.length d]:=(CellsAt.same HX.out.1 (hg6.block _ (by simp<;>omega) (by simp<;>omega)));have b6:Below w.heap.size w w6:=(HX.out.2.drew.grown hg6 (by simp<;>omega) (fun k hk=>by cases hk;omega));have c0:=(x6 0 _ rfl).1;have c1:=(x6 1 _ rfl).1;have r6:=(SRow.below HQ.out b6).cellsO;have z6:=hg6.size;simp at z6)
  |(refine step_append_rowO w6 rfl (.tmp 6) (.tmp 8) 22 rfl (w.heap.size+1) 9 i0 (.string ⟨#[]⟩) 16 underlying22 hi hz0 hz1 hz2 rfl k6 ss.length cap6 ss rfl ho6 b tt.length d tt rfl rfl hb r6 (by unfold maxLen;omega) (by omega) (by omega) ?_;intro k9 cap9 w9 ho9 hg9 hat9 hlt9))
 all_goals
  have l6:w.heap.size+1<=k6:=(ho6.lt k6 rfl).1;have HF:Hid (w9.ownsRow w.heap.size 9 1 (.slice (some ⟨k9,0,none⟩) (ss.length+tt.length) cap9) (ss.length+tt.length) ((ss++tt).map Value.string)/\Below w.heap.size w w9):=⟨ho9.mono (by omega),b6.grown hg9 b6.size (fun k hk=>by cases hk;omega)⟩;clear ho6 hg6 hat6 hlt6 x6 b6 c0 c1 r6 z6 ho9 hg9 hat9 hlt9 oA rA y0 y1 z0 z1;go_wp2;go_ret
  rw[List.length_append];exact⟨k9,cap9,rfl,HF.out⟩
end Go.Proofs.YtpekbmegopfhfaaGreatDoor
