import Derived.Test.YtpekbmegopfhfaaGreatDoorW35
import Derived.Test.YtpekbmegopfhfaaGreatDoorW32
import Derived.Test.YtpekbmegopfhfaaGreatDoorW09
namespace Go.Proofs.YtpekbmegopfhfaaGreatDoor
open Go.RowKit
attribute [local go_sem] Oper.semAt_some
theorem Stable.and {B:Nat} {J K:Nat->World->Prop} (h:Stable B J) (k:Stable B K):Stable B (fun n W=>J n W/\K n W):=
 fun n W W' row hj hg hr=>⟨h n W W' row hj.1 hg hr,k n W W' row hj.2 hg hr⟩
theorem stable_below {B n0:Nat} (w:World) (hw:n0<=w.heap.size) (hn:n0<=B):Stable B (fun _ W=>Below n0 w W):=
 fun _ W W' row hj hg hr=>⟨hg.os.trans hj.os,hg.tape.trans hj.tape,hg.output.trans hj.output,Nat.le_trans hj.size hg.size,fun k hk=>
  (hg.block k (by have:=hj.size;omega) (fun e=>by have:=(hr k e.symm).1;omega)).trans (hj.block k hk)⟩
theorem stable_block {B b:Nat} (o:Obj) (hb:b<B):Stable B (fun _ W=>W.heap[b]?=some o):=
 fun _ W W' row hj hg hr=>(hg.block b (Array.getElem?_eq_some_iff.1 hj).1 (fun e=>by have:=(hr b e.symm).1;omega)).trans hj
set_option maxRecDepth 100000 in
set_option maxHeartbeats 2000000 in
theorem all_iter (a a':Option Addr) (cap cap':Nat) (ss tt:List ByteArray) (n0:Nat) (w:World) (hrow:SRow w n0 a ss) (hrow':SRow w n0 a' tt) (hn0:n0<=w.heap.size) (hl:ss.length<=maxLen) (hl':tt.length<=maxLen):
 IterOk Tryz.prog 59 (fun l=> #[.agg #[.slice a ss.length cap,.slice a' tt.length cap'],.func (.yield l) #[] #[]]) (ss++tt) n0 w:=by
 intro l J Jx W hW hJ hJx hY h0 m
 refine callsIn_of_wp_marks Tryz.func59 rfl trivial ?_ rfl
 simp only [Tryz.ntmps59,List.size_toArray,List.length_cons,List.length_nil,Nat.reduceAdd,Nat.reduceSub,Array.replicate_succ,Array.replicate_zero,List.push_toArray,List.append_toArray,List.nil_append,List.cons_append]
 gi_wp2
 have hWn:n0<=W.heap.size:=Nat.le_trans hn0 hW.size
 obtain ⟨W0,hW0⟩:∃W0,W0=(W.alloc (.cells #[.slice a ss.length cap,.slice a' tt.length cap'] 99)).alloc (.cells #[.func (.yield l) #[] #[]] 125):=⟨_,rfl⟩
 have hs0:W0.heap.size=W.heap.size+2:=by rw [hW0];simp
 have hd0:W0.heap[W.heap.size]?=some (.cells #[.slice a ss.length cap,.slice a' tt.length cap'] 99):=by
  rw [hW0];exact (Below.heap_alloc _ _ _ (by simp)).trans (World.alloc_heap_new _ _)
 have hy0:W0.heap[W.heap.size+1]?=some (.cells #[.func (.yield l) #[] #[]] 125):=by
  rw [hW0];have:=World.alloc_heap_new (W.alloc (.cells #[.slice a ss.length cap,.slice a' tt.length cap'] 99)) (.cells #[.func (.yield l) #[] #[]] 125)
  rwa [World.size_alloc] at this
 have hb0:Below n0 W W0:=by rw [hW0];exact ((Below.refl _ W).alloc hWn _).alloc (by simp;omega) _
 have hJ0:J 0 W0:=by rw [hW0];exact hJ.alloc _ (hJ.alloc _ h0)
 rw [←hW0]
 clear hW0
 have hr1:SRow W0 n0 a ss:=(hrow.below (hW.mono hn0)).below hb0
 have hr2:SRow W0 n0 a' tt:=(hrow'.below (hW.mono hn0)).below hb0
 refine wp_range (gf:=109) (pre:= #[.agg #[.slice a ss.length cap]]) (lb:= #[]) rfl (enters_of Tryz.func109 (by kernel_rfl) rfl) (xs:=ss) (n0:=n0)
  (by simpa using kept_iter a cap ss n0 W0 hr1 (by omega) hl) (by omega) rfl
  (fun k V=>J k V/\Below n0 W0 V/\V.heap[W.heap.size]?=some (.cells #[.slice a ss.length cap,.slice a' tt.length cap'] 99)/\V.heap[W.heap.size+1]?=some (.cells #[.func (.yield l) #[] #[]] 125))
  Jx ((hJ.mono (by omega)).and ((stable_below W0 (by omega) (by omega)).and ((stable_block _ (by omega)).and (stable_block _ (by omega))))) (hJx.mono (by omega))
  ⟨hJ0,Below.refl _ _,hd0,hy0⟩ (fun s=>{tmps:= #[.agg #[.slice a ss.length cap,.slice a' tt.length cap'],.func (.yield l) #[] #[],.pointer (some ⟨W.heap.size,0,none⟩),.pointer (some ⟨W.heap.size+1,0,none⟩),.string s,undef,
   .pointer (some ⟨W.heap.size,0,none⟩),.agg #[.slice a ss.length cap],.func (.func 109) #[.agg #[.slice a ss.length cap]] #[],.string s,undef,undef,undef,undef,undef,undef,undef,undef,undef,undef,undef],defers:=[]}) ?assign ?body ?done ?stop
 case assign=>
  intro l2 m2 s V K hK
  gi_wp2
  exact hK
 case body=>
  rintro l2 m2 k s V hs ⟨hj,hbl,hcd,hcy⟩ hsz
  obtain ⟨fn,tmps,assign,body,hy,hR⟩:=hY k V s (by rw [List.getElem?_append_left (List.getElem?_eq_some_iff.1 hs).1];exact hs) hj (by omega) (m2 -1)
  have hcc:V.cell? ⟨W.heap.size+1,0,none⟩=some (.func (.yield l) #[] #[]):=by simp [World.cell?,hcy]
  gi_wp2
  refine ⟨fun h=>by simp [Fence.wide] at h,RoundIn.mono (F:=Fence.wide.inRound l2) hR ?_⟩
  rintro e V3 ⟨hKB,(⟨rfl,hJ3,hk3⟩|⟨rfl,hJx3⟩)⟩
  ·gi_wp2
   exact ⟨hKB.mono (by omega),⟨hJ3,hbl.trans hk3,hKB.same _ _ (by omega) hcd rfl,hKB.same _ _ (by omega) hcy rfl⟩,hk3⟩
  ·gi_wp2
   exact ⟨hKB.mono (by omega),hJx3⟩
 case done=>
  rintro D V hD ⟨hj,hbl,hcd,hcy⟩ hK
  have hc1:V.cell? ⟨W.heap.size,0,none⟩=some (.slice a ss.length cap):=by simp [World.cell?,hcd]
  have hc2:V.cell? ⟨W.heap.size,1,none⟩=some (.slice a' tt.length cap'):=by simp [World.cell?,hcd]
  gi_wp2
  have hDV:D<V.heap.size:=(Array.getElem?_eq_some_iff.1 hK).1
  have hy1:W.heap.size+1<V.heap.size:=(Array.getElem?_eq_some_iff.1 hcy).1
  refine wp_range (gf:=110) (pre:= #[.agg #[.slice a ss.length cap,.slice a' tt.length cap']]) (lb:= #[]) rfl (enters_of Tryz.func110 (by kernel_rfl) rfl) (xs:=tt) (n0:=n0)
   (by simpa using open_iter (.slice a ss.length cap) a' cap' tt n0 V (hr2.below hbl) (by omega) hl') (by omega) rfl
   (fun k X=>J (ss.length+k) X/\X.heap[W.heap.size+1]?=some (.cells #[.func (.yield l) #[] #[]] 125)/\X.heap[D]?=some (.deferred (some [])))
   (fun _ X=>(∃k,Jx k X)/\X.heap[D]?=some (.deferred (some [])))
   (Stable.and (fun k X X' row hj hg hr=>(hJ.mono (by omega)) (ss.length+k) X X' row hj hg hr) ((stable_block _ hy1).and (stable_block _ hDV))) (Stable.and (fun _ X X' row hj hg hr=>hj.elim fun k hk=>⟨k,(hJx.mono (by omega)) k X X' row hk hg hr⟩) (stable_block _ hDV))
   ⟨hj,hcy,hK⟩ (fun s=>{tmps:= #[.agg #[.slice a ss.length cap,.slice a' tt.length cap'],.func (.yield l) #[] #[],.pointer (some ⟨W.heap.size,0,none⟩),.pointer (some ⟨W.heap.size+1,0,none⟩),undef,.string s,
    .pointer (some ⟨W.heap.size,0,none⟩),.agg #[.slice a ss.length cap],.func (.func 109) #[.agg #[.slice a ss.length cap]] #[],undef,undef,undef,undef,undef,
    .agg #[.slice a ss.length cap,.slice a' tt.length cap'],.func (.func 110) #[.agg #[.slice a ss.length cap,.slice a' tt.length cap']] #[],.string s,undef,undef,undef,undef],defers:=[]}) ?assign2 ?body2 ?done2 ?stop2
  case assign2=>
   intro l2 m2 s X K hK
   gi_wp2
   exact hK
  case body2=>
   rintro l2 m2 k s X hs ⟨hj,hcy,hK⟩ hsz
   obtain ⟨fn,tmps,assign,body,hy,hR⟩:=hY (ss.length+k) X s (by rw [List.getElem?_append_right (by omega),Nat.add_sub_cancel_left];exact hs) hj (by omega) (m2 -1)
   have hcc:X.cell? ⟨W.heap.size+1,0,none⟩=some (.func (.yield l) #[] #[]):=by simp [World.cell?,hcy]
   gi_wp2
   refine ⟨fun h=>by simp [Fence.wide] at h,RoundIn.mono (F:=Fence.wide.inRound l2) hR ?_⟩
   rintro e V3 ⟨hKB,(⟨rfl,hJ3,hk3⟩|⟨rfl,hJx3⟩)⟩
   ·gi_wp2
    exact ⟨hKB.mono (by omega),⟨hJ3,hKB.same _ _ (by omega) hcy rfl,hKB.same _ _ (by omega) hK rfl⟩,hk3⟩
   ·gi_wp2
    exact ⟨hKB.mono (by omega),⟨_,hJx3⟩,hKB.same _ _ (by omega) hK rfl⟩
  case done2=>
   rintro D2 X hD2 ⟨hj,hcy,hK⟩ hK2
   gi_wp2
   refine ⟨by simp,.inl ⟨_,_,rfl,run_takeDeferred hK2,by simp,.inl ⟨_,_,rfl,run_takeDeferred ((World.putObj_heap_other (by omega)).trans hK),?_⟩⟩⟩
   refine ⟨_,results_none rfl _ _ _,⟨_,rfl⟩,.inl ?_⟩
   rw [List.length_append]
   exact hJ.putObj _ (hJ.putObj _ hj (by omega) hK2 rfl) (by omega) ((World.putObj_heap_other (by omega)).trans hK) rfl
  case stop2=>
   rintro D2 k X hD2 ⟨⟨k2,hjx⟩,hK⟩ hK2
   gi_wp2
   refine ⟨by simp,.inl ⟨_,_,rfl,run_takeDeferred hK2,by simp,.inl ⟨_,_,rfl,run_takeDeferred ((World.putObj_heap_other (by omega)).trans hK),?_⟩⟩⟩
   refine ⟨_,results_none rfl _ _ _,⟨_,rfl⟩,.inr ⟨k2,?_⟩⟩
   exact hJx.putObj _ (hJx.putObj _ hjx (by omega) hK2 rfl) (by omega) ((World.putObj_heap_other (by omega)).trans hK) rfl
 case stop=>
  rintro D k V hD hjx hK
  gi_wp2
  refine ⟨by simp,.inl ⟨_,_,rfl,run_takeDeferred hK,?_⟩⟩
  exact ⟨_,results_none rfl _ _ _,⟨_,rfl⟩,.inr ⟨k,hJx.putObj _ hjx (by omega) hK rfl⟩⟩
end Go.Proofs.YtpekbmegopfhfaaGreatDoor
namespace Go.Proofs.YtpekbmegopfhfaaGreatDoor
open Go.ChangeShapes Go.WideShapes Go.ChangeAt Go.RowKit
theorem Dr.stable {V V':World} {base d m B:Nat} {O P L:Value} {wd now given births:Int} {ks:List Kd} {ps:List Pd} {ls:List Ld} (h:Dr V base d m O P L wd now given births ks ps ls) (hd:d<B) (hm:m<B) (hb:base<=B) {row:Option Nat} (hg:V.grownBy V' row) (hr:∀r,row=some r->B<=r/\∃o,V.heap[r]?=some o/\notRow o=true):Dr V' base d m O P L wd now given births ks ps ls:=by
 refine (DU.turn ⟨h⟩ (tn_grown hg) (fun r hr'=> ?_)).dr
 obtain ⟨h1,o,h2,h3⟩:=hr r (by simpa using hr')
 refine ⟨by omega,fun hv=> ?_,fun cur fz e=> ?_⟩
 ·unfold vB at hv
  simp only [List.mem_cons,List.mem_append,Option.mem_toList] at hv
  rcases hv with e|e|e|e|e
  ·omega
  ·omega
  ·obtain ⟨c,hc⟩:=own_type h.ord e
   rw [h2] at hc
   cases hc
   simp [notRow] at h3
  ·obtain ⟨c,hc⟩:=own_type h.pin e
   rw [h2] at hc
   cases hc
   simp [notRow] at h3
  ·obtain ⟨c,hc⟩:=own_type h.lea e
   rw [h2] at hc
   cases hc
   simp [notRow] at h3
 ·rw [h2] at e
  cases e
  simp [notRow] at h3
theorem Dr.boxNotin {V:World} {base d m b:Nat} {O P L:Value} {wd now given births:Int} {ks:List Kd} {ps:List Pd} {ls:List Ld} (h:Dr V base d m O P L wd now given births ks ps ls) {o:Obj} (hx:V.heap[b]?=some o) (ho:notRow o=true) (hd:b≠d) (hm:b≠m):b∉vB d m O P L/\NS V b:=by
 refine ⟨fun hv=> ?_,fun cur fz e=> ?_⟩
 ·unfold vB at hv
  simp only [List.mem_cons,List.mem_append,Option.mem_toList] at hv
  rcases hv with e|e|e|e|e
  ·exact hd e
  ·exact hm e
  ·obtain ⟨c,hc⟩:=own_type h.ord e
   rw [hx] at hc
   cases hc
   simp [notRow] at ho
  ·obtain ⟨c,hc⟩:=own_type h.pin e
   rw [hx] at hc
   cases hc
   simp [notRow] at ho
  ·obtain ⟨c,hc⟩:=own_type h.lea e
   rw [hx] at hc
   cases hc
   simp [notRow] at ho
 ·rw [hx] at e
  cases e
  simp [notRow] at ho
theorem Dr.rebase {V:World} {base base' d m:Nat} {O P L:Value} {wd now given births:Int} {ps:List Pd} {ls:List Ld} (h:Dr V base d m O P L wd now given births [] ps ls) (hb:base'<=base):Dr V base' d m O P L wd now given births [] ps ls:=by
 obtain ⟨n,f,h1,h2,h3⟩:=h.map
 refine ⟨h.box,⟨n,f,h1,h2,fun s hs=> ?_⟩,h.ord.mono hb,h.pin.mono hb,h.lea.mono hb,Nat.le_trans hb h.bd,Nat.le_trans hb h.bm,h.ap⟩
 rcases h3 s hs with h|⟨u,_,_,hu,_⟩
 ·exact .inl h
 ·simp at hu
theorem Dr.keepsB {V V':World} {base d m B:Nat} {O P L:Value} {wd now given births:Int} {ks:List Kd} {ps:List Pd} {ls:List Ld} (h:Dr V base d m O P L wd now given births ks ps ls) (hd:d<B) (hm:m<B) (ht:Tn (vB d m O P L) V V'):KeepsB B V V':=by
 refine ⟨ht.size,fun b o hb hx ho=>(ht.block b (Array.getElem?_eq_some_iff.1 hx).1 (fun hv=> ?_)).trans hx⟩
 unfold vB at hv
 simp only [List.mem_cons,List.mem_append,Option.mem_toList] at hv
 rcases hv with e|e|e|e|e
 ·omega
 ·omega
 ·obtain ⟨c,hc⟩:=own_type h.ord e
  rw [hx] at hc
  cases hc
  simp [notRow] at ho
 ·obtain ⟨c,hc⟩:=own_type h.pin e
  rw [hx] at hc
  cases hc
  simp [notRow] at ho
 ·obtain ⟨c,hc⟩:=own_type h.lea e
  rw [hx] at hc
  cases hc
  simp [notRow] at ho
theorem KeepsB.ofG {B:Nat} {W W':World} {row:Option Nat} (hg:W.grownBy W' row) (hrow:∀j,row=some j->j<B):KeepsB B W W':=
 ⟨hg.size,fun b _ hb h _=>(hg.block b (Array.getElem?_eq_some_iff.1 h).1 (fun e=>by have:=hrow b e.symm;omega)).trans h⟩
theorem KeepsB.below {B:Nat} {V V':World} (h:Below V.heap.size V V'):KeepsB B V V':=⟨h.size,fun b _ _ hx _=>(h.block b (Array.getElem?_eq_some_iff.1 hx).1).trans hx⟩
end Go.Proofs.YtpekbmegopfhfaaGreatDoor
namespace Go.Proofs.YtpekbmegopfhfaaGreatDoor
open Go.ChangeShapes Go.WideShapes Go.ChangeAt Go.RowKit
attribute [local go_sem] Oper.semAt_some
theorem rp_stop {V:World} {z B:Nat} {T U:TypeId} {v:Value} (t4:Boxed V (z+1) T (.pointer none)) (t5:Boxed V (z+1+1) U v) (hB:z+1+1<B) (u:Value):KeepsB B V ((V.setCell ⟨z+1,0,none⟩ (.pointer none)).setCell ⟨z+1+1,0,none⟩ u)/\Below z V ((V.setCell ⟨z+1,0,none⟩ (.pointer none)).setCell ⟨z+1+1,0,none⟩ u)/\Boxed ((V.setCell ⟨z+1,0,none⟩ (.pointer none)).setCell ⟨z+1+1,0,none⟩ u) (z+1) T (.pointer none)/\Boxed ((V.setCell ⟨z+1,0,none⟩ (.pointer none)).setCell ⟨z+1+1,0,none⟩ u) (z+1+1) U u:=by
 have g1:=grownBy_setCell' V (z+1) (.pointer none)
 have g2:=grownBy_setCell' (V.setCell ⟨z+1,0,none⟩ (.pointer none)) (z+1+1) u
 have t4':=t4.set (.pointer none)
 have t5':Boxed (V.setCell ⟨z+1,0,none⟩ (.pointer none)) (z+1+1) U v:=(g1.block _ (Array.getElem?_eq_some_iff.1 t5).1 (fun e=>by have:=Option.some.inj e;omega)).trans t5
 refine ⟨(KeepsB.ofG g1 (fun j e=>by cases e;omega)).trans (KeepsB.ofG g2 (fun j e=>by cases e;omega)),(Below.setCell (Below.setCell (Below.refl _ _) (show z<=z+1 by omega) _) (show z<=z+1+1 by omega) _),(g2.block _ (Array.getElem?_eq_some_iff.1 t4').1 (fun e=>by have:=Option.some.inj e;omega)).trans t4',t5'.set u⟩
set_option maxRecDepth 100000 in
set_option maxHeartbeats 4000000 in
theorem replay_any (wd:Int) (gf:Nat) (pre lb:Array Value) (xs:List ByteArray) (w:World) (h1:1<=wd) (h8:wd<=8) (hx:xs.length<=100000) (hs:∀s∈xs,s.size<=1048576) (hE:Env w) (eg:∀args w,(callFunc gf args).run Tryz.prog w=.ok (.enter gf args) w) (hseq:∀W,Below w.heap.size w W->IterOk Tryz.prog gf (fun l=>pre++ #[.func (.yield l) #[] #[]]++lb) xs w.heap.size W):
 Calls Tryz.prog 45 #[.int .i64 wd,.func (.func gf) pre lb] w fun e w'=>Below w.heap.size w w'/\((∃n:Nat,RunNo wd xs n/\e=.returned (.tuple #[.pointer none,.int .i64 n]))∨(∃r d m O P L base,Run wd r0 xs r/\e=.returned (.tuple #[.pointer (some ⟨d,0,none⟩),.int .i64 0])/\Dr w' base d m O P L wd r.now r.given r.births r.ks r.ps r.ls/\w.heap.size<=base)):=by
 refine (callsIn_wide (n:=3)).1 ?_
 refine callsIn_of_wp_marks Tryz.func45 rfl trivial ?_ rfl
 simp only [Tryz.ntmps45,List.size_toArray,List.length_cons,List.length_nil,Nat.reduceAdd,Nat.reduceSub,Array.replicate_succ,Array.replicate_zero,List.push_toArray,List.append_toArray,List.nil_append,List.cons_append]
 obtain ⟨W0,hW0⟩:∃W,W=((w.alloc (.cells #[.int .i64 wd] 3)).alloc (.cells #[.pointer none] 82)).alloc (.cells #[.int .i64 0] 3):=⟨_,rfl⟩
 have b0:Below w.heap.size w W0:=by rw [hW0];exact (((Below.refl _ _).alloc (Nat.le_refl _) _).alloc (by simp) _).alloc (by simp;omega) _
 have z0:W0.heap.size=w.heap.size+3:=by rw [hW0];simp
 have HD:Hid _:=draftOfN_any wd 0 0 0 none none none 0 0 0 [] [] [] W0 ⟨.inl rfl,.inl rfl,.inl rfl⟩ (by simp) (by simp) (by simp) (by simp) h8
 have HW0:Hid _:=hW0
 gi_wp2_with fail
 refine ⟨trivial,?_⟩
 rw [←HW0.out]
 refine (callsIn_wide.2 HD.out).mono ?_
 rintro e w1 ⟨d,m,O,P,L,rfl,hDr,_,_,hb1⟩
 have hB1:=b0.trans (hb1.mono b0.size)
 obtain ⟨W2,hW2⟩:∃W,W=(w1.alloc (.cells #[.pointer (some ⟨d,0,none⟩)] 82)).alloc (.cells #[.int .i64 0] 3):=⟨_,rfl⟩
 have HW2:Hid _:=hW2
 have hb2:Below w1.heap.size w1 W2:=by rw [hW2];exact ((Below.refl _ _).alloc (Nat.le_refl _) _).alloc (by simp) _
 have hB2:Below w.heap.size w W2:=hB1.trans (hb2.mono hB1.size)
 have z2:W2.heap.size=w1.heap.size+2:=by rw [hW2];simp
 have hz1:w.heap.size+3<=w1.heap.size:=by have:=hb1.size;omega
 have x2:Boxed W2 w.heap.size 3 (.int .i64 wd):=by
  show W2.heap[w.heap.size]?=_
  rw [hb2.block _ (by omega),hb1.block _ (by omega),hW0,Below.heap_alloc _ _ _ (by simp;omega),Below.heap_alloc _ _ _ (by simp)]
  exact heap_alloc_new w _
 have x4:Boxed W2 (w.heap.size+1) 82 (.pointer none):=by
  show W2.heap[w.heap.size+1]?=_
  rw [hb2.block _ (by omega),hb1.block _ (by omega),hW0,Below.heap_alloc _ _ _ (by simp)]
  have:=heap_alloc_new (w.alloc (.cells #[.int .i64 wd] 3)) (.cells #[.pointer none] 82)
  rw [World.size_alloc] at this
  exact this
 have x5:Boxed W2 (w.heap.size+1+1) 3 (.int .i64 0):=by
  show W2.heap[w.heap.size+1+1]?=_
  rw [hb2.block _ (by omega),hb1.block _ (by omega),hW0]
  have:=heap_alloc_new ((w.alloc (.cells #[.int .i64 wd] 3)).alloc (.cells #[.pointer none] 82)) (.cells #[.int .i64 0] 3)
  rw [World.size_alloc,World.size_alloc] at this
  exact this
 have x6:Boxed W2 w1.heap.size 82 (.pointer (some ⟨d,0,none⟩)):=by
  show W2.heap[w1.heap.size]?=_
  rw [hW2,Below.heap_alloc _ _ _ (by simp)]
  exact heap_alloc_new w1 _
 have x7:Boxed W2 (w1.heap.size+1) 3 (.int .i64 0):=by
  show W2.heap[w1.heap.size+1]?=_
  rw [hW2]
  have:=heap_alloc_new (w1.alloc (.cells #[.pointer (some ⟨d,0,none⟩)] 82)) (.cells #[.int .i64 0] 3)
  rw [World.size_alloc] at this
  exact this
 have hdl:d<w1.heap.size:=hDr.lts d (by simp [vB])
 have hml:m<w1.heap.size:=hDr.lts m (by simp [vB])
 have hbd:=hDr.bd
 have hbm:=hDr.bm
 have hD2:Dr W2 w.heap.size d m O P L wd 0 0 0 [] [] []:=(hDr.below hb2).rebase (by omega)
 have HE:Hid (∀V,Below w.heap.size w V->Env V):=fun V hV=>hE.below hV
 clear HD HW0 hW0 hW2 hDr hb1 hb2 hB1 b0 hE
 gi_wp2_with fail
 rw [←HW2.out]
 clear HW2
 have stA:∀(b:Nat) (T:TypeId) (v:Value),b<W2.heap.size->Stable W2.heap.size (fun _ V=>Boxed V b T v):=fun b T v hb=>stable_block (.cells #[v] T) hb
 refine wp_range (gf:=gf) (pre:=pre) (lb:=lb) rfl eg (xs:=xs) (n0:=w.heap.size) (hseq W2 hB2) hB2.size rfl
  (fun k V=>Below w.heap.size w V/\Boxed V w.heap.size 3 (.int .i64 wd)/\Boxed V (w.heap.size+1) 82 (.pointer none)/\Boxed V (w.heap.size+1+1) 3 (.int .i64 0)/\Boxed V w1.heap.size 82 (.pointer (some ⟨d,0,none⟩))/\Boxed V (w1.heap.size+1) 3 (.int .i64 k)/\∃r O P L,Run wd r0 (xs.take k) r/\Dr V w.heap.size d m O P L wd r.now r.given r.births r.ks r.ps r.ls)
  (fun _ V=>Below w.heap.size w V/\∃n:Nat,RunNo wd xs n/\Boxed V (w.heap.size+1) 82 (.pointer none)/\Boxed V (w.heap.size+1+1) 3 (.int .i64 n))
  ?stI ?stX ⟨hB2,x2,x4,x5,x6,x7,r0,O,P,L,rfl,hD2⟩
  (fun s=>{tmps:= #[.int .i64 wd,.func (.func gf) pre lb,.pointer (some ⟨w.heap.size,0,none⟩),undef,.pointer (some ⟨w.heap.size+1,0,none⟩),.pointer (some ⟨w.heap.size+1+1,0,none⟩),.pointer (some ⟨w1.heap.size,0,none⟩),.pointer (some ⟨w1.heap.size+1,0,none⟩),.string s,undef,undef,.int .i64 wd,.agg #[.int .i64 wd,.int .i64 0,.int .i64 0,.int .i64 0,.slice none 0 0,.slice none 0 0,.slice none 0 0],.pointer (some ⟨d,0,none⟩),.func (.func gf) pre lb,.string s,undef,undef,undef,undef,undef,undef,undef,undef,undef,undef,undef,undef,undef,undef,undef,undef,undef,undef,undef],defers:=[]}) ?assign ?body ?done ?stop
 case stI=>
  refine fun k V V' row hJ hg hr=> ?_
  obtain ⟨q1,q2,q3,q4,q5,q6,r,O,P,L,q7,q8⟩:=hJ
  exact ⟨stable_below w (Nat.le_refl _) hB2.size k V V' row q1 hg hr,stA _ _ _ (by omega) k V V' row q2 hg hr,stA _ _ _ (by omega) k V V' row q3 hg hr,stA _ _ _ (by omega) k V V' row q4 hg hr,stA _ _ _ (by omega) k V V' row q5 hg hr,stA _ _ _ (by omega) k V V' row q6 hg hr,r,O,P,L,q7,q8.stable (B:=W2.heap.size) (by omega) (by omega) (by omega) hg hr⟩
 case stX=>
  refine fun k V V' row hJ hg hr=> ?_
  obtain ⟨q1,n,q2,q3,q4⟩:=hJ
  exact ⟨stable_below w (Nat.le_refl _) hB2.size k V V' row q1 hg hr,n,q2,stA _ _ _ (by omega) k V V' row q3 hg hr,stA _ _ _ (by omega) k V V' row q4 hg hr⟩
 case assign=>
  intro l2 m2 s V K hK
  gi_wp2
  exact hK
 case body=>
  rintro l2 m2 k s V hsk ⟨hbl,y2,y4,y5,y6,y7,r,O,P,L,hrun,hdr⟩ hsz
  have hkl:k<xs.length:=(List.getElem?_eq_some_iff.1 hsk).1
  obtain ⟨V1,hV1⟩:∃V1,V1=V.setCell ⟨w1.heap.size+1,0,none⟩ (.int .i64 ((k:Int)+1)):=⟨_,rfl⟩
  have g1:V.grownBy V1 (some (w1.heap.size+1)):=by rw [hV1];exact grownBy_setCell' V _ _
  have zV1:V1.heap.size=V.heap.size:=by rw [hV1];simp
  have bl1:Below w.heap.size w V1:=by rw [hV1];exact hbl.setCell (p:=⟨w1.heap.size+1,0,none⟩) (by show w.heap.size<=w1.heap.size+1;omega) _
  have u7:Boxed V1 (w1.heap.size+1) 3 (.int .i64 ((k:Int)+1)):=by rw [hV1];exact y7.set _
  have ou:∀{b:Nat} {T:TypeId} {v:Value},Boxed V b T v->b≠w1.heap.size+1->Boxed V1 b T v:=fun {b T v} hb hne=>(g1.block b (Array.getElem?_eq_some_iff.1 hb).1 (fun e=>hne (Option.some.inj e))).trans hb
  have u2:=ou y2 (by omega)
  have u4:=ou y4 (by omega)
  have u5:=ou y5 (by omega)
  have u6:=ou y6 (by omega)
  have hdr1:=hdr.stable (B:=w1.heap.size) hdl hml (by omega) g1 (fun q e=>by cases e;exact ⟨by omega,_,y7,by simp [notRow]⟩)
  have HR:Hid _:=iReadE_any s wd V1 (hs s (List.mem_of_getElem? hsk)) (HE.out V1 bl1)
  have c7:=y7.cell
  have f7:=y7.frozen
  have c2:=y2.cell
  have hn2:¬w.heap.size=w1.heap.size+1:=by omega
  have HV1:Hid _:=hV1
  clear hV1
  gi_wp2_with fail
  rw [←HV1.out]
  clear HV1
  refine ⟨trivial,fun h=>by simp [Fence.wide] at h,?_⟩
  refine (callsIn_wide.2 HR.out).mono ?_
  rintro e V2 ⟨v,rfl,ho2,hb2⟩
  obtain ⟨ra,rc,rfl⟩:=own_val ho2
  obtain ⟨V3,hV3⟩:∃V3,V3=V2.alloc (.cells #[.int .i64 (rdE s wd).k,.string (rdE s wd).sum,.string (rdE s wd).name,.int .i64 (rdE s wd).n,.string (rdE s wd).t,.slice ra (rdE s wd).ss.length rc] 77):=⟨_,rfl⟩
  have hb23:Below V2.heap.size V2 V3:=by rw [hV3];exact (Below.refl _ _).alloc (Nat.le_refl _) _
  have hb3:Below V1.heap.size V1 V3:=hb2.trans (hb23.mono hb2.size)
  have bl3:Below w.heap.size w V3:=bl1.trans (hb3.mono bl1.size)
  have o3:∀{b:Nat} {T:TypeId} {v:Value},Boxed V1 b T v->Boxed V3 b T v:=fun {b T v} hb=>(hb3.block b (Array.getElem?_eq_some_iff.1 hb).1).trans hb
  have t2:=o3 u2
  have t4:=o3 u4
  have t5:=o3 u5
  have t6:=o3 u6
  have t7:=o3 u7
  have hdr3:=hdr1.below hb3
  have e3:CellsAt V3 V2.heap.size [.int .i64 (rdE s wd).k,.string (rdE s wd).sum,.string (rdE s wd).name,.int .i64 (rdE s wd).n,.string (rdE s wd).t,.slice ra (rdE s wd).ss.length rc]:=by rw [hV3];exact CellsAt.new V2 _ _
  have k13:KeepsB W2.heap.size V V3:=(KeepsB.ofG g1 (fun j e=>by cases e;omega)).trans (KeepsB.below hb3)
  have bn13:Below w.heap.size V V3:=(show Below w.heap.size V V1 from ⟨g1.os,g1.tape,g1.output,g1.size,fun b hb=>g1.block b (by have:=hbl.size;omega) (fun e=>by have:=Option.some.inj e;omega)⟩).trans (hb3.mono bl1.size)
  have HV3:Hid _:=hV3
  have hzz:w.heap.size+3<=V2.heap.size:=by have h1:=hb2.size;have h2:=hsz;omega
  have hz7:w1.heap.size+1<V2.heap.size:=by have h1:=hb2.size;have h2:=hsz;omega
  clear hV3
  cases hok:(rdE s wd).ok with
  |false=>
   have hbad:RunNo wd xs (k+1):=⟨k,r,s,rfl,hsk,hrun,.inl hok⟩
   have c7':=t7.cell
   have f5:=t5.frozen
   have f4:=t4.frozen
   have d4:=t4.cell
   have d5:=t5.cell
   clear c7 c2 f7 e3 HR ho2
   have HS:Hid _:=rp_stop (B:=W2.heap.size) t4 t5 (by omega) (.int .i64 ((k:Int)+1))
   gi_wp2_with fail
   rw [←HV3.out]
   refine ⟨trivial,?_⟩
   gi_wp2_with fail
   gi_region
   all_goals gi_wp2_with fail
   all_goals exact ⟨k13.trans ⟨HS.out.1.size,HS.out.1.same⟩,bl3.trans HS.out.2.1.drew,k+1,hbad,HS.out.2.2.1,HS.out.2.2.2⟩
  |true=>
   have hoe:=(rdE_sound hok).1
   have haok:AOk wd r.now r.given r.births r.ks r.ps r.ls (rdE s wd).k (rdE s wd).n (rdE s wd).t (rdE s wd).ss:=ROk.aok (hrun.ok (r0_ok h1 h8)) hoe (by have:=okE_text hoe;unfold maxLen;omega)
   have ho3:=own_below ho2 hb23
   have hlts1:=hdr1.lts
   have href:RefV V3 w.heap.size (vB d m O P L) ra (rdE s wd).ss:=by
    rcases ho3.2 with ⟨_,h0⟩|⟨g,cap,cur,hv,hbg,hg,_⟩
    ·exact .inl (List.eq_nil_of_length_eq_zero h0)
    ·cases hv
     refine .inr ⟨g,0,rfl,(Array.getElem?_eq_some_iff.1 hg).1,fun hin=>by have:=hlts1 g hin;omega,.inr ⟨cur,_,hg⟩,fun i x hx=> ?_⟩
     rcases SRow.own ho3 with h|⟨b',off',e',_,hc⟩
     ·rw [h] at hx
      simp at hx
     ·cases e'
      exact hc i x hx
   have HA:Hid _:=attempt_any d (vB d m O P L) (rdE s wd).k (rdE s wd).sum (rdE s wd).name (rdE s wd).t (rdE s wd).n ra (rdE s wd).ss.length rc (fun c a b=>ANo wd r.now r.given r.births r.ks r.ps r.ls (rdE s wd).k (rdE s wd).sum (rdE s wd).name (rdE s wd).n (rdE s wd).t (rdE s wd).ss c a b) (fun sm le X=>∃r',AYes wd r.now r.given r.births r.ks r.ps r.ls (rdE s wd).k (rdE s wd).sum (rdE s wd).name (rdE s wd).n (rdE s wd).t (rdE s wd).ss r'/\r'.sm=sm/\r'.le=le/\Drd w.heap.size d m wd r' X) V3 hdr3.lts (fun sm le X X' R cur q1 q2 q3 q4=>by
    obtain ⟨r',g1,g2,g3,g4⟩:=q1
    have hz3:=hb3.size
    exact ⟨r',g1,g2,g3,g4.stays q2 (by omega) (by omega) q4⟩) (fun X hX=>change_any w.heap.size d m O P L wd r.now r.given r.births r.ks r.ps r.ls (rdE s wd).k (rdE s wd).sum (rdE s wd).name (rdE s wd).n (rdE s wd).t (rdE s wd).ss ra rc X (DU.below ⟨hdr3⟩ hX) haok (href.move (U:=[]) (Tn.of hX) (by simp) (fun b hb=> .inl hb)))
   have d6:V2.cell? ⟨w1.heap.size,0,none⟩=some (.pointer (some ⟨d,0,none⟩)):=(hb2.cell (p:=⟨w1.heap.size,0,none⟩) (by show w1.heap.size<_;omega)).trans u6.cell
   have hz6:w1.heap.size<V2.heap.size:=by omega
   have HTk:Hid (xs.take (k+1)=xs.take k++[s]):=by
    have hq:=List.take_succ_eq_append_getElem hkl
    rw [(List.getElem?_eq_some_iff.1 hsk).2] at hq
    exact hq
   clear c7 c2 f7 HR ho2 ho3 href haok hlts1 e3
   gi_wp2_with fail
   rw [←HV3.out]
   clear HV3
   refine ⟨trivial,fun h=>by simp [Fence.wide] at h,?_⟩
   refine (callsIn_wide.2 HA.out).mono ?_
   intro e V4 hat
   obtain ⟨c,a',b',hno,rfl,ht⟩|⟨sm,le,rfl,⟨r',hy,_,_,⟨O',P',L',hd'⟩⟩,ht⟩:=hat
   ·have hc0:(c !=0)=true:=by have:=hno.code;simp;omega
    have hbad:RunNo wd xs (k+1):=⟨k,r,s,rfl,hsk,hrun,.inr ⟨c,a',b',hno⟩⟩
    have hk4:=hdr3.keepsB (B:=w1.heap.size) hdl hml ht
    have hl4:Below w.heap.size V3 V4:=ht.below bl3.size (fun b hin=>by
     have:=hdr3
     unfold vB at hin
     simp only [List.mem_cons,List.mem_append,Option.mem_toList] at hin
     rcases hin with h|h|h|h|h
     ·rw [h];exact this.bd
     ·rw [h];exact this.bm
     ·exact (own_lt this.ord h).1
     ·exact (own_lt this.pin h).1
     ·exact (own_lt this.lea h).1)
    have s7:Boxed V4 (w1.heap.size+1) 3 (.int .i64 ((k:Int)+1)):=hk4.same _ _ (by omega) t7 (by simp [notRow])
    have s4:Boxed V4 (w.heap.size+1) 82 (.pointer none):=(ht.block _ (Array.getElem?_eq_some_iff.1 t4).1 (hdr3.boxNotin t4 (by simp [notRow]) (by omega) (by omega)).1).trans t4
    have s5:Boxed V4 (w.heap.size+1+1) 3 (.int .i64 0):=(ht.block _ (Array.getElem?_eq_some_iff.1 t5).1 (hdr3.boxNotin t5 (by simp [notRow]) (by omega) (by omega)).1).trans t5
    have HS:Hid _:=rp_stop (B:=W2.heap.size) s4 s5 (by omega) (.int .i64 ((k:Int)+1))
    have c7':=s7.cell
    have f5:=s5.frozen
    have f4:=s4.frozen
    have d4:=s4.cell
    have d5:=s5.cell
    have K4:Hid _:=And.intro (hk4.mono (B':=W2.heap.size) (by omega)) hl4
    clear hk4 hl4 ht hno d6 HA
    have hfl:∀X:World,(Instr.field 30 (.agg #[.int .i64 c,.int .i64 0,.int .i64 0,.int .i64 0,.int .i64 0,.slice none 0 0,.slice none 0 0,.slice none 0 0,.string ⟨#[]⟩,.int .i64 0,.string a',.string b']) 0).run Tryz.prog X=.ok (.int .i64 c) X:=fun _=>by kernel_rfl
    have hre:(refC c a' b').toArray= #[.int .i64 c,.int .i64 0,.int .i64 0,.int .i64 0,.int .i64 0,.slice none 0 0,.slice none 0 0,.slice none 0 0,.string ⟨#[]⟩,.int .i64 0,.string a',.string b']:=rfl
    rw [hre]
    clear hre
    gi_wp2_with fail
    gi_region
    all_goals gi_wp2_with fail
    all_goals exact ⟨(k13.trans K4.out.1).trans ⟨HS.out.1.size,HS.out.1.same⟩,(bl3.trans K4.out.2).trans HS.out.2.1.drew,k+1,hbad,HS.out.2.2.1,HS.out.2.2.2⟩
   ·have hk4:=hdr3.keepsB (B:=w1.heap.size) hdl hml ht
    have hl4:Below w.heap.size V3 V4:=ht.below bl3.size (fun b hin=>by
     have:=hdr3
     unfold vB at hin
     simp only [List.mem_cons,List.mem_append,Option.mem_toList] at hin
     rcases hin with h|h|h|h|h
     ·rw [h];exact this.bd
     ·rw [h];exact this.bm
     ·exact (own_lt this.ord h).1
     ·exact (own_lt this.pin h).1
     ·exact (own_lt this.lea h).1)
    have s7:Boxed V4 (w1.heap.size+1) 3 (.int .i64 ((k:Int)+1)):=hk4.same _ _ (by omega) t7 (by simp [notRow])
    have s6:Boxed V4 w1.heap.size 82 (.pointer (some ⟨d,0,none⟩)):=hk4.same _ _ (by omega) t6 (by simp [notRow])
    have s2:Boxed V4 w.heap.size 3 (.int .i64 wd):=(ht.block _ (Array.getElem?_eq_some_iff.1 t2).1 (hdr3.boxNotin t2 (by simp [notRow]) (by omega) (by omega)).1).trans t2
    have s4:Boxed V4 (w.heap.size+1) 82 (.pointer none):=(ht.block _ (Array.getElem?_eq_some_iff.1 t4).1 (hdr3.boxNotin t4 (by simp [notRow]) (by omega) (by omega)).1).trans t4
    have s5:Boxed V4 (w.heap.size+1+1) 3 (.int .i64 0):=(ht.block _ (Array.getElem?_eq_some_iff.1 t5).1 (hdr3.boxNotin t5 (by simp [notRow]) (by omega) (by omega)).1).trans t5
    have hrun':Run wd r0 (xs.take (k+1)) r':=by rw [HTk.out];exact hrun.snoc ⟨hok,hy⟩
    have K4:Hid _:=And.intro (hk4.mono (B':=W2.heap.size) (by omega)) hl4
    have HF:Hid _:=And.intro s7 (And.intro s6 (And.intro s2 (And.intro s4 (And.intro s5 (And.intro hrun' hd')))))
    clear hk4 hl4 ht d6 HA s7 s6 s2 s4 s5 hrun' hd' hy
    have hfl:∀X:World,(Instr.field 30 (.agg #[.int .i64 0,.int .i64 0,.int .i64 0,.int .i64 0,.int .i64 0,.slice none 0 0,.slice none 0 0,.slice none 0 0,.string sm,.int .i64 le,.string ⟨#[]⟩,.string ⟨#[]⟩]) 0).run Tryz.prog X=.ok (.int .i64 0) X:=fun _=>by kernel_rfl
    gi_wp2_with fail
    exact ⟨k13.trans K4.out.1,⟨bl3.trans K4.out.2,HF.out.2.2.1,HF.out.2.2.2.1,HF.out.2.2.2.2.1,HF.out.2.1,HF.out.1,r',O',P',L',HF.out.2.2.2.2.2.1,HF.out.2.2.2.2.2.2⟩,bn13.trans K4.out.2⟩
 case done=>
  rintro D V hD ⟨hbl,y2,y4,y5,y6,y7,r,O,P,L,hrun,hdr⟩ hK
  rw [List.take_of_length_le (Nat.le_refl _)] at hrun
  have c6:=y6.cell
  have f4:=y4.frozen
  have d4:=y4.cell
  have f5:=y5.frozen
  have d5:=y5.cell
  have g1:=grownBy_setCell' V (w.heap.size+1) (.pointer (some ⟨d,0,none⟩))
  have g2:=grownBy_setCell' (V.setCell ⟨w.heap.size+1,0,none⟩ (.pointer (some ⟨d,0,none⟩))) (w.heap.size+1+1) (.int .i64 0)
  obtain ⟨R1,hR1⟩:∃R,R=V.setCell ⟨w.heap.size+1,0,none⟩ (.pointer (some ⟨d,0,none⟩)):=⟨_,rfl⟩
  obtain ⟨R2,hR2⟩:∃R,R=R1.setCell ⟨w.heap.size+1+1,0,none⟩ (.int .i64 0):=⟨_,rfl⟩
  rw [←hR1] at g1 g2
  rw [←hR2] at g2
  have p4:Boxed R1 (w.heap.size+1) 82 (.pointer (some ⟨d,0,none⟩)):=by rw [hR1];exact y4.set _
  have p5:Boxed R1 (w.heap.size+1+1) 3 (.int .i64 0):=(g1.block _ (Array.getElem?_eq_some_iff.1 y5).1 (fun e=>by have:=Option.some.inj e;omega)).trans y5
  have q5:Boxed R2 (w.heap.size+1+1) 3 (.int .i64 0):=by rw [hR2];exact p5.set _
  have q4:Boxed R2 (w.heap.size+1) 82 (.pointer (some ⟨d,0,none⟩)):=(g2.block _ (Array.getElem?_eq_some_iff.1 p4).1 (fun e=>by have:=Option.some.inj e;omega)).trans p4
  have hK2:R2.heap[D]?=some (.deferred (some [])):=(g2.block _ (by have:=g1.size;have:=(Array.getElem?_eq_some_iff.1 hK).1;omega) (fun e=>by have:=Option.some.inj e;omega)).trans ((g1.block _ (Array.getElem?_eq_some_iff.1 hK).1 (fun e=>by have:=Option.some.inj e;omega)).trans hK)
  have hd1:=DU.turn ⟨hdr⟩ (tn_grown g1) (fun b hb=>by
   obtain rfl:b=w.heap.size+1:=by simpa using hb
   exact ⟨by omega,hdr.boxNotin y4 (by simp [notRow]) (by omega) (by omega)⟩)
  have hd2:=DU.turn hd1 (tn_grown g2) (fun b hb=>by
   obtain rfl:b=w.heap.size+1+1:=by simpa using hb
   exact ⟨by omega,hd1.dr.boxNotin p5 (by simp [notRow]) (by omega) (by omega)⟩)
  have hd3:=hd2.dr.stable (B:=W2.heap.size) (by omega) (by omega) (by omega) (grownBy_putObj' R2 D (.deferred none)) (fun r e=>by cases e;exact ⟨hD,_,hK2,rfl⟩)
  have e4:=cell_kept q4.cell (grownBy_putObj' _ D (.deferred none)) (fun r e=>by cases e;exact ⟨_,hK2,rfl⟩)
  have e5:=cell_kept q5.cell (grownBy_putObj' _ D (.deferred none)) (fun r e=>by cases e;exact ⟨_,hK2,rfl⟩)
  have bR:Below w.heap.size w R2:=by rw [hR2,hR1];exact (hbl.setCell (p:=⟨w.heap.size+1,0,none⟩) (by show _<=_+1;omega) _).setCell (p:=⟨w.heap.size+1+1,0,none⟩) (by show _<=_+1+1;omega) _
  have HR:Hid _:=And.intro hR1 hR2
  clear g1 g2 hR1 hR2 p4 p5 q4 q5 hd1 hd2 hdr
  gi_wp2_with fail
  rw [←HR.out.1,←HR.out.2]
  refine ⟨by simp,.inl ⟨_,_,rfl,run_takeDeferred hK2,?_⟩⟩
  refine ⟨.tuple #[.pointer (some ⟨d,0,none⟩),.int .i64 0],by simp [results,Tryz.results45,go_sem,e4,e5],?_,.inr ⟨r,d,m,O,P,L,w.heap.size,hrun,rfl,hd3,Nat.le_refl _⟩⟩
  exact bR.trans ⟨rfl,rfl,rfl,by simp,fun i hi=>World.putObj_heap_other (by omega)⟩
 case stop=>
  rintro D k V hD ⟨hbl,n,hno,y4,y5⟩ hK
  have d4:=cell_kept y4.cell (grownBy_putObj' _ D (.deferred none)) (fun r e=>by cases e;exact ⟨_,hK,rfl⟩)
  have d5:=cell_kept y5.cell (grownBy_putObj' _ D (.deferred none)) (fun r e=>by cases e;exact ⟨_,hK,rfl⟩)
  gi_wp2
  refine ⟨by simp,.inl ⟨_,_,rfl,run_takeDeferred hK,?_⟩⟩
  refine ⟨.tuple #[.pointer none,.int .i64 n],by simp [results,Tryz.results45,go_sem,d4,d5],?_,.inl ⟨n,hno,rfl⟩⟩
  exact hbl.trans ⟨rfl,rfl,rfl,by simp,fun i hi=>World.putObj_heap_other (by omega)⟩
end Go.Proofs.YtpekbmegopfhfaaGreatDoor
namespace Go.Proofs.YtpekbmegopfhfaaGreatDoor
open Go.ChangeShapes Go.WideShapes Go.ChangeAt Go.RowKit
theorem SAns.turn {w w':World} {base:Nat} {T P L:Value} {rs:List Value} {ks:List Kd} {ps:List Pd} {ls:List Ld} (h:SAns w base T P L rs ks ps ls) {V:List Nat} (ht:Tn V w w') (hV:∀b∈V,b<base):SAns w' base T P L rs ks ps ls:=by
 have hs:∀{e:TypeId} {size:Nat} {v:Value} {n:Nat} {xs:List Value},w.ownsRow base e size v n xs->w'.ownsRow base e size v n xs:=fun ho=>own_same ho (fun g hg=>ht.block g (own_lt ho hg).2 (fun e=>by have:=hV g e;have:=(own_lt ho hg).1;omega))
 exact ⟨h.len,hs h.things,fun i k r hk hr=>hs (h.refs i k r hk hr),hs h.pins,hs h.leases,h.nd⟩
theorem SAns.mono {w:World} {base base':Nat} {T P L:Value} {rs:List Value} {ks:List Kd} {ps:List Pd} {ls:List Ld} (h:SAns w base T P L rs ks ps ls) (hb:base'<=base):SAns w base' T P L rs ks ps ls:=
 ⟨h.len,h.things.mono hb,fun i k r hk hr=>(h.refs i k r hk hr).mono hb,h.pins.mono hb,h.leases.mono hb,h.nd⟩
end Go.Proofs.YtpekbmegopfhfaaGreatDoor
namespace Go.Proofs.YtpekbmegopfhfaaGreatDoor
open Go.ChangeShapes Go.WideShapes Go.ChangeAt Go.RowKit
def RAns (wd:Int) (xs:List ByteArray) (w:World) (e:Ending) (w':World):Prop:=
 ∃(x:An) (T P L:Value) (rs:List Value),RTo wd xs x/\e=.returned (.agg #[.int .i64 x.code,.int .i64 x.wd,.int .i64 x.now,.int .i64 x.given,.int .i64 x.births,T,P,L,.string x.sm,.int .i64 x.le,.string x.a,.string x.b])/\SAns w' w.heap.size T P L rs x.ks x.ps x.ls/\Below w.heap.size w w'
end Go.Proofs.YtpekbmegopfhfaaGreatDoor
