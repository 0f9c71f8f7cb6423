import Derived.Test.YtpekbmegopfhfaaGreatDoorZ33
import Derived.Conc.RwLib
import Derived.Conc.MuLone
import Derived.KernelRfl
set_option maxRecDepth 100000
set_option maxHeartbeats 16000000
namespace Go.Proofs.YtpekbmegopfhfaaGreatDoor
open Go.ChangeShapes Go.WideShapes Go.ChangeAt Go.RowKit _root_.Go.Proofs.Tryz
abbrev muLink:Go.Conc.Locks.MuLink:={lock:=121,unlock:=122,ilock:=155,iunlock:=156,lockSlow:=185,unlockSlow:=188,disable:=181,enable:=183,acquire:=184,relMerge:=186,cas32:=182,add32:=187,tMutex:=162,tIMutex:=160,tPMutex:=204,tPIMutex:=238,tPI32:=240,tUP:=215,tNoCopy:=157,tU32:=158}
theorem muLib:Go.Conc.Locks.MuLib prog muLink:=
 ⟨func121,func122,func155,func156,func181,func183,func184,func186,func182,func187,underlying160,runUnderlying160,sizeOf160,isAgg160,zeroValue160,underlying162,runUnderlying162,sizeOf162,isAgg162,zeroValue162,underlying204,runUnderlying204,sizeOf204,isAgg204,zeroValue204,underlying238,runUnderlying238,sizeOf238,isAgg238,zeroValue238,underlying240,runUnderlying240,sizeOf240,isAgg240,zeroValue240,underlying215,runUnderlying215,sizeOf215,isAgg215,zeroValue215,underlying157,runUnderlying157,sizeOf157,isAgg157,zeroValue157,underlying21,runUnderlying21,sizeOf21,isAgg21,zeroValue21,(by kernel_rfl)⟩
section
open Go.MuLone Go.ChangeShapes Go.WideShapes Go.ChangeAt Go.RowKit
theorem dfind {w:World} {base d m:Nat} {O P L:Value} {wd now given births:Int} {ks:List Kd} {ps:List Pd} {ls:List Ld} (h:Dr w base d m O P L wd now given births ks ps ls) (hfar:base+4<=m) (hsz:∀k∈ks,(k.sum.size:Int)=wd) (s:ByteArray):
 ∃u bo t ra rc refs ok,((¬There ks s/\t=⟨#[]⟩/\refs=[]/\ok=false)∨(∃x∈ks,x.sum=s/\t=x.text/\refs=x.refs/\ok=true))/\WRow w base ra refs/\(∀b,aBlk ra=some b->refs≠[]->∃cur,w.heap[b]?=some (.cells cur 9))/\
  ∀w',Below w.heap.size w w'->Calls prog 123 #[.agg #[.int .i64 wd,.map (some m)],.string s] w' fun e w''=>e=.returned (.tuple #[.agg #[.string u,.int .i64 bo,.string t,.slice ra refs.length rc],.bool ok])/\Below w'.heap.size w' w'':=by
 obtain⟨n,f,hn,hM,hH⟩:=h.map;by_cases hs:(s.size:Int)=wd
 ·rcases hH s hs with⟨h1,h2⟩|⟨x,ra,rc,h1,h2,h3,h4⟩
  ·exact⟨⟨#[]⟩,0,⟨#[]⟩,none,0,[],false,.inl ⟨h2,rfl,rfl,rfl⟩,.inl rfl,(fun b hb=>by cases hb),fun w' hb=>find_any' wd m n f s w' (hM.keep hb hM.lt) hs _ _ _ _ _ ⟨_,_,_,rfl⟩ (by rw[h1];rfl) (by rw[h1];rfl)⟩
  ·refine⟨x.sum,x.born,x.text,ra,rc,x.refs,true,.inr ⟨x,h1,h2,rfl,rfl,rfl⟩,?_,?_,fun w' hb=>find_any' wd m n f s w' (hM.keep hb hM.lt) hs _ _ _ _ _ ⟨_,_,_,rfl⟩ (by rw[h3];rfl) (by rw[h3];rfl)⟩
   ·rcases h4 with h4|⟨b,off,ha,hb,hv,hx,hc⟩
    ·exact .inl h4
    ·rcases hx with⟨_,m',hm',hlt⟩|⟨hle,cur,hcur⟩
     ·cases hm';omega
     ·exact .inr ⟨b,off,ha,hle,hb,fun i q hq=>⟨hc i q hq,by simp[World.frozen?,hcur]⟩⟩
   ·rcases h4 with h4|⟨b,off,ha,hb,hv,hx,hc⟩
    ·exact fun b hb hne=>absurd h4 hne
    ·rcases hx with⟨_,m',hm',hlt⟩|⟨hle,cur,hcur⟩
     ·cases hm';omega
     ·intro b' hb' _
      rw[ha] at hb';cases hb';exact⟨cur,hcur⟩
 ·exact⟨⟨#[]⟩,0,⟨#[]⟩,none,0,[],false,.inl ⟨fun⟨x,hx,e⟩=>hs (by rw[←e];exact hsz x hx),rfl,rfl,rfl⟩,.inl rfl,(fun b hb=>by cases hb),fun w' _=>find_no wd m s w' hs⟩
theorem Desk.notStr {w:World} {lo k d m base:Nat} {O P L:Value} {v:Vd} {a:Va} {r:Rs} (h:Desk w lo k d m base O P L v a r):NS w k:=fun cur fz e=>by
 obtain⟨c,hc⟩:=h.ty;rw[hc] at e;cases e
theorem fetch_any (lo k d m base:Nat) (O P L:Value) (v:Vd) (a:Va) (r:Rs) (s:ByteArray) (w:World) (h:Desk w lo k d m base O P L v a r) (hok:VaultOk v r):
 Calls prog 74 #[.pointer (some ⟨k,0,none⟩),.string s] w fun e w'=>∃(t:ByteArray) (ra:Option Addr) (refs:List ByteArray) (rc:Nat) (ok:Bool),FTo v s t refs ok/\e=.returned (.tuple #[.agg #[.string t,.slice ra refs.length rc],.bool ok])/\WRow w' lo ra refs/\Below lo w w':=by
 have hkl:k<w.heap.size:=h.box.lt;obtain⟨W,hW⟩:∃W,W=w.alloc (.cells #[.string ⟨#[]⟩,.slice none 0 0] 66):=⟨_,rfl⟩;have bW:=(al1 hW).1;have zW:=(al1 hW).2.1;have xT:=(al1 hW).2.2
 have xK:CellsAt W k [.int .i32 0,.int .u32 0,.int .i64 v.wd,.int .i64 v.lim,.slice a.sa v.ss.length a.sc,.slice a.ta v.tt.length a.tc,.int .i64 v.sw,.int .i64 v.now,.int .i64 v.given,.int .i64 v.births,.slice a.ka v.ks.length a.kc,.slice a.pa v.ps.length a.pc,.slice a.la v.ls.length a.lc,.int .i64 v.ph,.slice a.qa v.qs.length a.qc,.slice a.ma v.ms.length a.mc,.int .i64 v.top,.int .i64 v.at_,.int .i64 v.ro,.pointer (some ⟨d,0,none⟩)]:=CellsAt.below h.box bW
 obtain⟨W1,hW1⟩:∃X,X=W.setCell ⟨k,0,none⟩ (.int .i32 1):=⟨_,rfl⟩;have t1:Tn [k] W W1:=by rw[hW1];exact Tn.set _ _ _ _ (by simp)
 have zW1:W1.heap.size=W.heap.size:=by rw[hW1];simp
 have xK1:CellsAt W1 k [.int .i32 1,.int .u32 0,.int .i64 v.wd,.int .i64 v.lim,.slice a.sa v.ss.length a.sc,.slice a.ta v.tt.length a.tc,.int .i64 v.sw,.int .i64 v.now,.int .i64 v.given,.int .i64 v.births,.slice a.ka v.ks.length a.kc,.slice a.pa v.ps.length a.pc,.slice a.la v.ls.length a.lc,.int .i64 v.ph,.slice a.qa v.qs.length a.qc,.slice a.ma v.ms.length a.mc,.int .i64 v.top,.int .i64 v.at_,.int .i64 v.ro,.pointer (some ⟨d,0,none⟩)]:=by rw[hW1];exact xK.set 0 _
 have xT1:CellsAt W1 w.heap.size [.string ⟨#[]⟩,.slice none 0 0]:=CellsAt.same xT (t1.block _ (by omega) (by simp;omega));have hbk:base<=k:=by have h1:=h.dr.bd;have h2:=h.lt d (by simp[vB]);omega
 have hnV:k∉vB d m O P L:=fun e=>by have:=h.lt k e;omega
 have hNS:NS W k:=fun cur fz e=>h.notStr cur fz ((bW.block k hkl).symm.trans e);have hD1:Dr W1 base d m O P L v.wd r.now r.given r.births r.ks r.ps r.ls:=(DU.turn ⟨h.dr.below bW⟩ t1 (fun b hb=>by simp at hb;subst hb;exact⟨hbk,hnV,hNS⟩)).dr;have hro:=hok.run.ok (r0_ok hok.wd.1 hok.wd.2);obtain⟨u,bo,t,ra,rc,refs,ok,hto,hw,hty,hcl⟩:=dfind hD1 h.far hro.kso.sz s
 have HTo:Hid (FTo v s t refs ok):=.inr ⟨⟨r,hok⟩,by rw[hok.same.2.1] at hto;exact hto⟩;obtain⟨n,hn⟩:∃n,n=refs.length:=⟨_,rfl⟩;rw[←hn] at hcl;have Hn:Hid (n=refs.length):=hn
 have HC:Hid (∀w',Below W1.heap.size W1 w'->Calls prog 123 #[.agg #[.int .i64 v.wd,.map (some m)],.string s] w' fun e w''=>e=.returned (.tuple #[.agg #[.string u,.int .i64 bo,.string t,.slice ra n rc],.bool ok])/\Below w'.heap.size w' w''):=hcl;have HWr:Hid (WRow W1 base ra refs):=hw;have HTy:Hid (∀b,aBlk ra=some b->refs≠[]->b≠k/\b≠w.heap.size):=fun b hb hne=>by
  obtain⟨cur,hcur⟩:=hty b hb hne;refine⟨fun e=> ?_,fun e=> ?_⟩
  ·rw[e] at hcur
   obtain⟨c,hc⟩:=h.ty;rw[hW1,heap_setCell_same W k 0 c _ _ ((bW.block k hkl).trans hc)] at hcur;cases hcur
  ·rw[e] at hcur
   have h1:=(t1.block w.heap.size (by omega) (by simp;omega)).symm.trans hcur;rw[hW,heap_alloc_new] at h1;cases h1
 obtain⟨dd0,dd1⟩:=CellsAt.c2 hD1.box 0 1;have hdk:d≠k:=fun e=>hnV (by simp[vB,e]);have hdl:d<W.heap.size:=by have:=h.lt d (by simp[vB]);omega
 obtain⟨c0,f0⟩:=xK 0 _ rfl;obtain⟨c19,_⟩:=xK1 19 _ rfl
 have HX1:Hid (CellsAt W1 k [.int .i32 1,.int .u32 0,.int .i64 v.wd,.int .i64 v.lim,.slice a.sa v.ss.length a.sc,.slice a.ta v.tt.length a.tc,.int .i64 v.sw,.int .i64 v.now,.int .i64 v.given,.int .i64 v.births,.slice a.ka v.ks.length a.kc,.slice a.pa v.ps.length a.pc,.slice a.la v.ls.length a.lc,.int .i64 v.ph,.slice a.qa v.qs.length a.qc,.slice a.ma v.ms.length a.mc,.int .i64 v.top,.int .i64 v.at_,.int .i64 v.ro,.pointer (some ⟨d,0,none⟩)]/\CellsAt W1 w.heap.size [.string ⟨#[]⟩,.slice none 0 0]):=⟨xK1,xT1⟩
 have HW:Hid _:=hW;have HW1:Hid _:=hW1;have HB:Hid (lo<=k/\Below lo w W1/\lo<=base):=⟨h.hlk,(bW.mono (by have:=h.hlk;omega)).trans (t1.below (by have:=h.hlk;omega) (by simp;exact h.hlk)),h.hlo⟩;clear hW hW1 h hok hro hto hw hty hcl hn xT xK xK1 xT1 hD1 hNS t1 bW
 go_enter_defers func74,ntmps74
 go_upto_region 1 with fail;rw[←HW.out];clear HW;go_wp2_with (go_at_call 121;refine(lock_free muLib ⟨k,0,none⟩ _ c0 f0).mono ?_;rintro e w' ⟨rfl,rfl⟩;rw[←HW1.out];clear HW1 c0 f0);refine(HC.out W1 (Below.refl _ _)).mono ?_;rintro e w3 ⟨rfl,hb3⟩;have hz3:=hb3.size
 have HX3:Hid (CellsAt w3 k [.int .i32 1,.int .u32 0,.int .i64 v.wd,.int .i64 v.lim,.slice a.sa v.ss.length a.sc,.slice a.ta v.tt.length a.tc,.int .i64 v.sw,.int .i64 v.now,.int .i64 v.given,.int .i64 v.births,.slice a.ka v.ks.length a.kc,.slice a.pa v.ps.length a.pc,.slice a.la v.ls.length a.lc,.int .i64 v.ph,.slice a.qa v.qs.length a.qc,.slice a.ma v.ms.length a.mc,.int .i64 v.top,.int .i64 v.at_,.int .i64 v.ro,.pointer (some ⟨d,0,none⟩)]/\CellsAt w3 w.heap.size [.string ⟨#[]⟩,.slice none 0 0]):=⟨CellsAt.below HX1.out.1 hb3,CellsAt.below HX1.out.2 hb3⟩
 obtain⟨p0,q0⟩:=HX3.out.2 0 _ rfl;obtain⟨p1,q1⟩:=HX3.out.2 1 _ rfl;obtain⟨Wa,hWa⟩:∃X,X=(w3.setCell ⟨w.heap.size,0,none⟩ (.string t)).setCell ⟨w.heap.size,1,none⟩ (.slice ra n rc):=⟨_,rfl⟩;obtain⟨W5,hW5⟩:∃X,X=Wa.alloc (.cells #[.string u,.int .i64 bo,.string t,.slice ra n rc] 114):=⟨_,rfl⟩;have ta:Tn [w.heap.size] w3 Wa:=by rw[hWa];exact(Tn.set _ _ _ _ (by simp)).trans (Tn.set _ _ _ _ (by simp))
 have za:Wa.heap.size=w3.heap.size:=by rw[hWa];simp
 have b35:=(al1 hW5).1;have t5:Tn [w.heap.size] w3 W5:=ta.trans ((Tn.of (V:=[]) b35).mono (by simp));have xa:CellsAt Wa w.heap.size [.string t,.slice ra n rc]:=by
  rw[hWa];exact(HX3.out.2.set 0 _).set 1 _
 have x5:CellsAt W5 w.heap.size [.string t,.slice ra n rc]:=CellsAt.below xa b35
 have y5:CellsAt W5 k [.int .i32 1,.int .u32 0,.int .i64 v.wd,.int .i64 v.lim,.slice a.sa v.ss.length a.sc,.slice a.ta v.tt.length a.tc,.int .i64 v.sw,.int .i64 v.now,.int .i64 v.given,.int .i64 v.births,.slice a.ka v.ks.length a.kc,.slice a.pa v.ps.length a.pc,.slice a.la v.ls.length a.lc,.int .i64 v.ph,.slice a.qa v.qs.length a.qc,.slice a.ma v.ms.length a.mc,.int .i64 v.top,.int .i64 v.at_,.int .i64 v.ro,.pointer (some ⟨d,0,none⟩)]:=CellsAt.same HX3.out.1 (t5.block _ (by omega) (by simp;omega))
 have z5:=t5.size;have hw5:WRow W5 base ra refs:=by
  by_cases hne:refs=[]
  ·exact .inl hne
  ·exact(HWr.out.below hb3).stays t5.size (fun b hb _ h2=>t5.block b h2 (by
    intro e;simp at e;exact(HTy.out b hb hne).2 e))
 obtain⟨W6,hW6⟩:∃X,X=W5.setCell ⟨k,0,none⟩ (.int .i32 0):=⟨_,rfl⟩;have t6:Tn [k] W5 W6:=by rw[hW6];exact Tn.set _ _ _ _ (by simp)
 have x6:CellsAt W6 w.heap.size [.string t,.slice ra n rc]:=CellsAt.same x5 (t6.block _ (by omega) (by simp;omega));have hw6:WRow W6 base ra refs:=by
  by_cases hne:refs=[]
  ·exact .inl hne
  ·exact hw5.stays t6.size (fun b hb _ h2=>t6.block b h2 (by
    intro e;simp at e;exact(HTy.out b hb hne).1 e))
 have hlt3:w.heap.size<w3.heap.size:=by omega
 obtain⟨l0,g0⟩:=y5 0 _ rfl;have hbel:Below lo w W6:=by
  have h1:=HB.out.2.1;have h2:=HB.out.1;exact((h1.trans (hb3.mono (by omega))).trans (t5.below (by omega) (by simp;omega))).trans (t6.below (by omega) (by simp;omega))
 have HFin:Hid (WRow W6 lo ra refs/\Below lo w W6/\CellsAt W6 w.heap.size [.string t,.slice ra n rc]):=⟨hw6.mono HB.out.2.2,hbel,x6⟩;have HU:Hid _:=And.intro l0 g0;have HW6:Hid _:=hW6;clear hW6 t6 t5 hw6 hw5 hbel x6 x5 y5 l0 g0 b35 ta xa za hb3 HX3 HX1 HC HWr HTy z5;have HW5:Hid _:=And.intro hWa hW5;clear hW5 hWa;go_wp2_with fail;rw[←HW5.out.1,←HW5.out.2]
 refine leaves_cons (f:=122) (args:= #[.pointer (some ⟨k,0,none⟩)]) (by simp) (by simp[go_sem]) ?_;refine(unlock_deferred muLib ⟨k,0,none⟩ .returning _ HU.out.1 HU.out.2).mono ?_;rintro e u' w'' ⟨rfl,rfl,rfl⟩;rw[←HW6.out]
 exact⟨_,res_cell2 (x:=.bool ok) results74 _ _ w.heap.size [.string t,.slice ra n rc] _ rfl rfl (CellsAt.range HFin.out.2.2) underlying66 rfl (by kernel_rfl),t,ra,refs,rc,ok,HTo.out,by rw[Hn.out],HFin.out.1,HFin.out.2.1⟩
theorem iFetch_any (v:Vd) (a:Va) (s:ByteArray) (w:World) (hr:VRows w w.heap.size a v) (hf:VFit v) (hE:Env w):
 Calls prog 32 #[.agg #[.int .i64 v.wd,.int .i64 v.lim,.slice a.sa v.ss.length a.sc,.slice a.ta v.tt.length a.tc,.int .i64 v.sw,.int .i64 v.now,.int .i64 v.given,.int .i64 v.births,.slice a.ka v.ks.length a.kc,.slice a.pa v.ps.length a.pc,.slice a.la v.ls.length a.lc,.int .i64 v.ph,.slice a.qa v.qs.length a.qc,.slice a.ma v.ms.length a.mc,.int .i64 v.top,.int .i64 v.at_,.int .i64 v.ro],.string s] w fun e w'=>∃(t:ByteArray) (ra:Option Addr) (refs:List ByteArray) (rc:Nat) (ok:Bool),FTo v s t refs ok/\e=.returned (.tuple #[.agg #[.string t,.slice ra refs.length rc],.bool ok])/\WRow w' w.heap.size ra refs/\Below w.heap.size w w':=by
 obtain⟨W,hW⟩:∃W,W=(w.alloc (.cells #[.int .i64 v.wd,.int .i64 v.lim,.slice a.sa v.ss.length a.sc,.slice a.ta v.tt.length a.tc,.int .i64 v.sw,.int .i64 v.now,.int .i64 v.given,.int .i64 v.births,.slice a.ka v.ks.length a.kc,.slice a.pa v.ps.length a.pc,.slice a.la v.ls.length a.lc,.int .i64 v.ph,.slice a.qa v.qs.length a.qc,.slice a.ma v.ms.length a.mc,.int .i64 v.top,.int .i64 v.at_,.int .i64 v.ro] 44)).alloc (.cells #[.string ⟨#[]⟩,.slice none 0 0] 66):=⟨_,rfl⟩
 have bW:=(al2 hW).1;have zW:=(al2 hW).2.1;have HX:Hid (CellsAt W _ _):=(al2 hW).2.2.1;have HZ:Hid (CellsAt W (w.heap.size+1) [.string ⟨#[]⟩,.slice none 0 0]):=by
  have h1:=CellsAt.new (w.alloc (.cells #[.int .i64 v.wd,.int .i64 v.lim,.slice a.sa v.ss.length a.sc,.slice a.ta v.tt.length a.tc,.int .i64 v.sw,.int .i64 v.now,.int .i64 v.given,.int .i64 v.births,.slice a.ka v.ks.length a.kc,.slice a.pa v.ps.length a.pc,.slice a.la v.ls.length a.lc,.int .i64 v.ph,.slice a.qa v.qs.length a.qc,.slice a.ma v.ms.length a.mc,.int .i64 v.top,.int .i64 v.at_,.int .i64 v.ro] 44)) [.string ⟨#[]⟩,.slice none 0 0] 66
  rw[World.size_alloc] at h1;show CellsAt W (w.heap.size+1) [.string ⟨#[]⟩,.slice none 0 0];rw[hW];exact h1
 have HD:Hid _:=deskOf_any v a W (hr.below' bW) hf (hE.below bW);have HW:Hid _:=hW;have HBW:Hid (Below w.heap.size w W):=bW;clear hW hr bW hf hE;go_enter func32,ntmps32;go_upto_region 1 with fail;rw[←HW.out];clear HW
 go_wp2_with (refine wpList_load_mid rfl 44 _ rfl w.heap.size 0 rfl [.int .i64 v.wd,.int .i64 v.lim,.slice a.sa v.ss.length a.sc,.slice a.ta v.tt.length a.tc,.int .i64 v.sw,.int .i64 v.now,.int .i64 v.given,.int .i64 v.births,.slice a.ka v.ks.length a.kc,.slice a.pa v.ps.length a.pc,.slice a.la v.ls.length a.lc,.int .i64 v.ph,.slice a.qa v.qs.length a.qc,.slice a.ma v.ms.length a.mc,.int .i64 v.top,.int .i64 v.at_,.int .i64 v.ro] _ HX.out.range underlying44 rfl (by kernel_rfl) ?_)
 refine Calls.mono HD.out ?_;rintro e w1 ⟨hb1,⟨hno,rfl⟩|⟨r,k,d,m,O,P,L,base,hok,rfl,hdk⟩⟩
 ·have HZ1:Hid (CellsAt w1 (w.heap.size+1) [.string ⟨#[]⟩,.slice none 0 0]):=CellsAt.below HZ.out hb1
  have HB1:Hid (Below w.heap.size w w1):=HBW.out.trans (hb1.mono HBW.out.size);have HNo:Hid (¬VOk v):=hno;obtain⟨m0,n0⟩:=HZ1.out 0 _ rfl;obtain⟨m1,n1⟩:=HZ1.out 1 _ rfl;clear hno hb1 HD HX HZ HBW;go_wp2;refine bodyPost_ret (v:=.tuple #[.agg #[.string ⟨#[]⟩,.slice none 0 0],.bool false]) (by simp[results,results32,go_sem,m0,m1]) rfl ?_
  exact⟨⟨#[]⟩,none,[],0,false,.inl ⟨HNo.out,rfl,rfl,rfl⟩,rfl,.inl rfl,(HB1.out.setCell (by simp) _).setCell (by simp) _⟩
 ·have HZ1:Hid (CellsAt w1 (w.heap.size+1) [.string ⟨#[]⟩,.slice none 0 0]):=CellsAt.below HZ.out hb1
  have HB1:Hid (Below w.heap.size w w1):=HBW.out.trans (hb1.mono HBW.out.size);have HF:Hid _:=fetch_any W.heap.size k d m base O P L v a r s w1 hdk hok;have z1:=hb1.size;clear hok hdk hb1 HD HX HZ HBW;go_wp2_with fail;refine Calls.mono HF.out ?_;rintro e w2 ⟨t,ra,refs,rc,ok,hto,rfl,hw2,hb2⟩;obtain⟨n,hn⟩:∃n,n=refs.length:=⟨_,rfl⟩;rw[←hn]
  have HZ2:Hid (CellsAt w2 (w.heap.size+1) [.string ⟨#[]⟩,.slice none 0 0]):=CellsAt.same HZ1.out (hb2.block _ (by omega));have HB2:Hid (Below w.heap.size w w2):=HB1.out.trans (hb2.mono (by omega));have z2:=hb2.size;obtain⟨W3,hW3⟩:∃X,X=(w2.setCell ⟨w.heap.size+1,0,none⟩ (.string t)).setCell ⟨w.heap.size+1,1,none⟩ (.slice ra n rc):=⟨_,rfl⟩
  have t3:Tn [w.heap.size+1] w2 W3:=by rw[hW3];exact(Tn.set _ _ _ _ (by simp)).trans (Tn.set _ _ _ _ (by simp))
  have x3:CellsAt W3 (w.heap.size+1) [.string t,.slice ra n rc]:=by rw[hW3];exact(HZ2.out.set 0 _).set 1 _
  have HFin:Hid (CellsAt W3 (w.heap.size+1) [.string t,.slice ra n rc]/\WRow W3 w.heap.size ra refs/\Below w.heap.size w W3/\n=refs.length):=⟨x3,(hw2.stays t3.size (fun b _ h1 h2=>t3.block b h2 (by simp;omega))).mono (by omega),HB2.out.trans (t3.below (by omega) (by simp)),hn⟩;have HTo:Hid (FTo v s t refs ok):=hto;have HW3:Hid _:=hW3;obtain⟨m0,n0⟩:=HZ2.out 0 _ rfl;obtain⟨m1,n1⟩:=HZ2.out 1 _ rfl
  clear hto hw2 hb2 hn t3 x3 hW3 HF HZ1 HB1 HZ2 HB2;go_wp2_with fail;rw[←HW3.out];refine bodyPost_ret (res_cell2 (x:=.bool ok) results32 _ _ (w.heap.size+1) [.string t,.slice ra n rc] _ rfl rfl (CellsAt.range HFin.out.1) underlying66 rfl (by kernel_rfl)) rfl ?_;exact⟨t,ra,refs,rc,ok,HTo.out,by rw[HFin.out.2.2.2],HFin.out.2.1,HFin.out.2.2.1⟩
end
theorem l7SameThing_any (t u:ByteArray) (a b:Option Addr) (c d:Nat) (ss tt:List ByteArray) (w:World) (hr:SRow w w.heap.size a ss) (hq:SRow w w.heap.size b tt) (hl:ss.length<=100000) (hl':tt.length<=1048576):
 Calls prog 114 #[.agg #[.string t,.slice a ss.length c],.agg #[.string u,.slice b tt.length d]] w fun e w'=>Says (t=u/\ss=tt) w w' e:=by
 obtain⟨W,hW⟩:∃W,W=(w.alloc (.cells #[.string t,.slice a ss.length c] 66)).alloc (.cells #[.string u,.slice b tt.length d] 66):=⟨_,rfl⟩;have bW:=(al2 hW).1;have x0:=(al2 hW).2.2.1;have x1:CellsAt W (w.heap.size+1) [.string u,.slice b tt.length d]:=by
  have h1:=CellsAt.new (w.alloc (.cells #[.string t,.slice a ss.length c] 66)) [.string u,.slice b tt.length d] 66;rw[World.size_alloc] at h1;rw[hW];exact h1
 have HX:Hid (∀X,Below W.heap.size W X->CellsAt X w.heap.size [.string t,.slice a ss.length c]/\CellsAt X (w.heap.size+1) [.string u,.slice b tt.length d]/\SRow X w.heap.size a ss/\SRow X w.heap.size b tt/\Below w.heap.size w X):=fun X hX=>by
  have hb:Below w.heap.size w X:=bW.trans (hX.mono bW.size);exact⟨CellsAt.below x0 hX,CellsAt.below x1 hX,hr.below hb,hq.below hb,hb⟩
 obtain⟨y0,y1⟩:=CellsAt.c2 x0 0 1;obtain⟨z0,z1⟩:=CellsAt.c2 x1 0 1;have HW:Hid _:=hW;clear hW hr hq x0 x1;by_cases ht:t=u
 ·subst ht
  have hte:(t.toList !=t.toList)=false:=by simp
  by_cases hlen:ss.length=tt.length
  ·have hle:((ss.length:Int) !=(tt.length:Int))=false:=by simp;omega
   have HLen:Hid (ss.length=tt.length):=hlen;clear hlen;go_enter func114,ntmps114;go_upto_region 1 with fail;rw[←HW.out];clear HW;go_wp2
   go_loopw [5] (fun i wr=>∃k:Nat,k<=ss.length/\i=.int .i64 k/\Hid (ss.take k=tt.take k/\Below W.heap.size W wr)) (fun i _=>ss.length -(intOf i).toNat)
   case atStart=>exact⟨0,Nat.zero_le _,rfl,⟨by simp,Below.refl _ _⟩⟩
   case round=>
    clear y0 y1 z0 z1;obtain⟨k,hk,rfl,HI⟩:=hrel;obtain⟨x0,x1,hr,hq,hbw⟩:=HX.out wr HI.out.2;obtain⟨y1,_⟩:=x0 1 _ rfl;obtain⟨z1,_⟩:=x1 1 _ rfl;by_cases hlt:k<ss.length
    ·have hlt':k<tt.length:=by have:=HLen.out;omega
     obtain⟨rb,ro,ha,hrb,hrc⟩:=hr.at hlt;obtain⟨qb,qo,hb,hqb,hqc⟩:=hq.at hlt';subst ha hb;have c0:=hrc k _ (List.getElem?_eq_getElem hlt);have d0:=hqc k _ (List.getElem?_eq_getElem hlt');have hlr:rb<wr.heap.size:=Nat.lt_of_lt_of_le hrb hbw.size;have hlq:qb<wr.heap.size:=Nat.lt_of_lt_of_le hqb hbw.size;have HT1:Hid (ss.take (k+1)=ss.take k++[ss[k]]):=List.take_succ_eq_append_getElem hlt
     have HT2:Hid (tt.take (k+1)=tt.take k++[tt[k]]):=List.take_succ_eq_append_getElem hlt';have HN:Hid (∀x y,ss[k]?=some x->tt[k]?=some y->x≠y->ss≠tt):=fun x y h1 h2 hne e=>by
      subst e;rw[h1] at h2;exact hne (Option.some.inj h2)
     have HG1:Hid (ss[k]?=some ss[k]):=List.getElem?_eq_getElem hlt;have HG2:Hid (tt[k]?=some tt[k]):=List.getElem?_eq_getElem hlt';have hkt:(k:Int)<tt.length:=by omega
     clear hrc hqc;generalize ss[k]=x at *
     generalize tt[k]=y at *
     have HB:Hid (Below W.heap.size W wr):=HI.out.2;have HBw:Hid (Below w.heap.size w wr):=hbw;clear x0 x1 hr hq hbw;by_cases hxy:x=y
     ·subst hxy
      have hxe:(x.toList !=x.toList)=false:=by simp
      go_wp2
      go_region
      all_goals go_wp2
      all_goals exact⟨⟨k+1,by omega,by go_num,⟨by rw[HT1.out,HT2.out,HI.out.1],HB.out.drew⟩⟩,by simp[intOf];omega⟩
     ·have hxe:(x.toList==y.toList)=false:=beq_ne hxy
      have hxe2:(x.toList !=y.toList)=true:=by simp[bne,hxe]
      go_wp2
      go_region
      all_goals go_wp2
      all_goals go_ret
      all_goals exact Says.no (fun h=>HN.out x y HG1.out HG2.out hxy h.2) HBw.out.drew
    ·obtain rfl:k=ss.length:=by omega
     have hfin:=HI.out.1;rw[List.take_of_length_le (Nat.le_refl _),List.take_of_length_le (by have:=HLen.out;omega)] at hfin;clear x0 x1 hr hq;go_wp2;go_ret;exact Says.yes ⟨by trivial,hfin⟩ hbw
  ·have hle:((ss.length:Int)==(tt.length:Int))=false:=by simp;omega
   have hle2:((ss.length:Int) !=(tt.length:Int))=true:=by simp;omega
   go_enter func114,ntmps114;go_upto_region 1 with fail;rw[←HW.out];go_wp2;go_ret;exact Says.no (fun h=>hlen (by rw[h.2])) bW
 ·have hte:(t.toList==u.toList)=false:=beq_ne ht
  have hte2:(t.toList !=u.toList)=true:=by simp[bne,hte]
  go_enter func114,ntmps114;go_upto_region 1 with fail;rw[←HW.out];go_wp2;go_ret;exact Says.no (fun h=>ht h.1) bW
end Go.Proofs.YtpekbmegopfhfaaGreatDoor
