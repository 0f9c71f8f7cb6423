import Derived.Test.YtpekbmegopfhfaaGreatDoorZ30
import Derived.RangeFuncNested
import Derived.Shelf.Abstract
import Derived.Shelf.RegionOpen
import Derived.RangeFuncBound
import Derived.RangeFuncCalls
import Derived.RangeFuncLeaves
import Derived.OwnWalkIn
import Derived.TacticsInMore
import Derived.LoopNIn
import Derived.LoopIn
set_option maxRecDepth 100000
set_option maxHeartbeats 16000000
namespace Go.Proofs.YtpekbmegopfhfaaGreatDoor
open Go.ChangeShapes Go.WideShapes Go.ChangeAt Go.RowKit _root_.Go.Proofs.Tryz
theorem sameState_any (wd now given births wd' now' given' births':Int) (a p l a' p' l':Option Addr) (ac pc lc ac' pc' lc':Nat) (ks ks':List Kd) (ps ps':List Pd) (ls ls':List Ld) (w:World) (hr:SRows w w.heap.size a p l ks ps ls) (hq:SRows w w.heap.size a' p' l' ks' ps' ls') (hl:ks.length<=100000/\ps.length<=100000/\ls.length<=100000) (hl':ks'.length<=1048576/\ps'.length<=1048576/\ls'.length<=1048576) (h1:∀k∈ks,k.refs.length<=100000) (h2:∀k∈ks',k.refs.length<=1048576):
 Calls prog 119 #[.agg #[.int .i64 wd,.int .i64 now,.int .i64 given,.int .i64 births,.slice a ks.length ac,.slice p ps.length pc,.slice l ls.length lc],.agg #[.int .i64 wd',.int .i64 now',.int .i64 given',.int .i64 births',.slice a' ks'.length ac',.slice p' ps'.length pc',.slice l' ls'.length lc']] w fun e w'=>Says ((wd=wd'/\now=now'/\given=given'/\births=births')/\ks=ks'/\ps=ps'/\ls=ls') w w' e:=by
 obtain⟨W,hW⟩:∃W,W=(w.alloc (.cells #[.int .i64 wd,.int .i64 now,.int .i64 given,.int .i64 births,.slice a ks.length ac,.slice p ps.length pc,.slice l ls.length lc] 28)).alloc (.cells #[.int .i64 wd',.int .i64 now',.int .i64 given',.int .i64 births',.slice a' ks'.length ac',.slice p' ps'.length pc',.slice l' ls'.length lc'] 28):=⟨_,rfl⟩;have bW:=(al2 hW).1;have x0:=(al2 hW).2.2.1
 have x1:CellsAt W (w.heap.size+1) [.int .i64 wd',.int .i64 now',.int .i64 given',.int .i64 births',.slice a' ks'.length ac',.slice p' ps'.length pc',.slice l' ls'.length lc']:=by
  have h1:=CellsAt.new (w.alloc (.cells #[.int .i64 wd,.int .i64 now,.int .i64 given,.int .i64 births,.slice a ks.length ac,.slice p ps.length pc,.slice l ls.length lc] 28)) [.int .i64 wd',.int .i64 now',.int .i64 given',.int .i64 births',.slice a' ks'.length ac',.slice p' ps'.length pc',.slice l' ls'.length lc'] 28;rw[World.size_alloc] at h1;rw[hW];exact h1
 have HX:Hid (∀X,Below W.heap.size W X->CellsAt X w.heap.size [.int .i64 wd,.int .i64 now,.int .i64 given,.int .i64 births,.slice a ks.length ac,.slice p ps.length pc,.slice l ls.length lc]/\CellsAt X (w.heap.size+1) [.int .i64 wd',.int .i64 now',.int .i64 given',.int .i64 births',.slice a' ks'.length ac',.slice p' ps'.length pc',.slice l' ls'.length lc']/\Below w.heap.size w X):=fun X hX=>⟨CellsAt.below x0 hX,CellsAt.below x1 hX,bW.trans (hX.mono bW.size)⟩
 have HK:Hid _:=equalKept_any a a' ac ac' ks ks' W (hr.below' bW).k (hq.below' bW).k hl.1 hl'.1 h1 h2;have HP:Hid (∀X,Below W.heap.size W X->Calls prog 151 #[.slice p ps.length pc,.slice p' ps'.length pc'] X fun e w'=>Says (ps=ps') X w' e):=fun X hX=>equalP_any p p' pc pc' ps ps' X (hr.below' (bW.trans (hX.mono bW.size))).p (hq.below' (bW.trans (hX.mono bW.size))).p hl.2.1 hl'.2.1
 have HL:Hid (∀X,Below W.heap.size W X->Calls prog 152 #[.slice l ls.length lc,.slice l' ls'.length lc'] X fun e w'=>Says (ls=ls') X w' e):=fun X hX=>equalL_any l l' lc lc' ls ls' X (hr.below' (bW.trans (hX.mono bW.size))).l (hq.below' (bW.trans (hX.mono bW.size))).l hl.2.2 hl'.2.2;obtain⟨u0,_⟩:=x0 0 _ rfl;obtain⟨v0,_⟩:=x1 0 _ rfl;obtain⟨u1,_⟩:=x0 1 _ rfl;obtain⟨v1,_⟩:=x1 1 _ rfl
 obtain⟨u2,_⟩:=x0 2 _ rfl;obtain⟨v2,_⟩:=x1 2 _ rfl;obtain⟨u3,_⟩:=x0 3 _ rfl;obtain⟨v3,_⟩:=x1 3 _ rfl;obtain⟨u4,_⟩:=x0 4 _ rfl;obtain⟨v4,_⟩:=x1 4 _ rfl;obtain⟨u5,_⟩:=x0 5 _ rfl;obtain⟨v5,_⟩:=x1 5 _ rfl;obtain⟨u6,_⟩:=x0 6 _ rfl;obtain⟨v6,_⟩:=x1 6 _ rfl;have HW:Hid _:=hW;clear hW hr hq x0 x1;by_cases e1:wd=wd'
 ·have b1:(wd==wd')=true:=by simp[e1]
  have E1:Hid (wd=wd'):=e1;clear e1;by_cases e2:now=now'
  ·have b2:(now==now')=true:=by simp[e2]
   have E2:Hid (now=now'):=e2;clear e2;by_cases e3:given=given'
   ·have b3:(given==given')=true:=by simp[e3]
    have E3:Hid (given=given'):=e3;clear e3;by_cases e4:births=births'
    ·have b4:(births==births')=true:=by simp[e4]
     have E4:Hid (births=births'):=e4;clear e4;go_enter func119,ntmps119;go_upto_region 1 with fail;rw[←HW.out];clear HW;go_wp2_with fail;refine Calls.mono HK.out ?_;rintro e w1 ⟨bb,rfl,hbb,hb1⟩;obtain⟨x0,x1,hB1⟩:=HX.out w1 hb1;have HB1:Hid (Below W.heap.size W w1):=hb1;clear u0 v0 u1 v1 u2 v2 u3 v3 u4 v4 u5 v5 u6 v6;obtain⟨u0,_⟩:=x0 0 _ rfl;obtain⟨v0,_⟩:=x1 0 _ rfl;obtain⟨u1,_⟩:=x0 1 _ rfl
     obtain⟨v1,_⟩:=x1 1 _ rfl;obtain⟨u2,_⟩:=x0 2 _ rfl;obtain⟨v2,_⟩:=x1 2 _ rfl;obtain⟨u3,_⟩:=x0 3 _ rfl;obtain⟨v3,_⟩:=x1 3 _ rfl;obtain⟨u4,_⟩:=x0 4 _ rfl;obtain⟨v4,_⟩:=x1 4 _ rfl;obtain⟨u5,_⟩:=x0 5 _ rfl;obtain⟨v5,_⟩:=x1 5 _ rfl;obtain⟨u6,_⟩:=x0 6 _ rfl;obtain⟨v6,_⟩:=x1 6 _ rfl;clear x0 x1;cases bb with
     |false=>
      have hne:ks≠ks':=fun e=>by have:=hbb.2 e;cases this
      go_wp2_with fail
      all_goals (try go_wp2)
      all_goals (try go_ret)
      all_goals exact Says.no (fun h=>hne h.2.1) hB1
     |true=>
      have HKs:Hid (ks=ks'):=hbb.1 rfl;clear hbb;go_wp2_with fail;refine Calls.mono (HP.out w1 HB1.out) ?_;rintro e w2 ⟨bb,rfl,hbb,hb2⟩;have HB2:Hid (Below W.heap.size W w2):=HB1.out.trans (hb2.mono HB1.out.size);obtain⟨x0,x1,hB2⟩:=HX.out w2 HB2.out;clear u0 v0 u1 v1 u2 v2 u3 v3 u4 v4 u5 v5 u6 v6;obtain⟨u0,_⟩:=x0 0 _ rfl;obtain⟨v0,_⟩:=x1 0 _ rfl;obtain⟨u1,_⟩:=x0 1 _ rfl
      obtain⟨v1,_⟩:=x1 1 _ rfl;obtain⟨u2,_⟩:=x0 2 _ rfl;obtain⟨v2,_⟩:=x1 2 _ rfl;obtain⟨u3,_⟩:=x0 3 _ rfl;obtain⟨v3,_⟩:=x1 3 _ rfl;obtain⟨u4,_⟩:=x0 4 _ rfl;obtain⟨v4,_⟩:=x1 4 _ rfl;obtain⟨u5,_⟩:=x0 5 _ rfl;obtain⟨v5,_⟩:=x1 5 _ rfl;obtain⟨u6,_⟩:=x0 6 _ rfl;obtain⟨v6,_⟩:=x1 6 _ rfl;clear x0 x1;cases bb with
      |false=>
       have hne:ps≠ps':=fun e=>by have:=hbb.2 e;cases this
       go_wp2_with fail
       all_goals (try go_wp2)
       all_goals (try go_ret)
       all_goals exact Says.no (fun h=>hne h.2.2.1) hB2
      |true=>
       have HPs:Hid (ps=ps'):=hbb.1 rfl;clear hbb;go_wp2_with fail;refine Calls.mono (HL.out w2 HB2.out) ?_;rintro e w3 ⟨bb,rfl,hbb,hb3⟩;have hB3:Below w.heap.size w w3:=hB2.trans (hb3.mono hB2.size);clear u0 v0 u1 v1 u2 v2 u3 v3 u4 v4 u5 v5 u6 v6;go_wp2;go_ret;exact⟨bb,rfl,⟨fun h=>⟨⟨E1.out,E2.out,E3.out,E4.out⟩,HKs.out,HPs.out,hbb.1 h⟩,fun h=>hbb.2 h.2.2.2⟩,hB3⟩
    ·have b4:(births==births')=false:=by simp[e4]
     go_enter func119,ntmps119;go_upto_region 1 with fail;rw[←HW.out];clear HW;go_wp2_with fail
     all_goals (try go_wp2)
     all_goals (try go_ret)
     all_goals exact Says.no (by first|exact id|exact fun h=>e4 h.1.2.2.2) bW
   ·have b3:(given==given')=false:=by simp[e3]
    go_enter func119,ntmps119;go_upto_region 1 with fail;rw[←HW.out];clear HW;go_wp2_with fail
    all_goals (try go_wp2)
    all_goals (try go_ret)
    all_goals exact Says.no (by first|exact id|exact fun h=>e3 h.1.2.2.1) bW
  ·have b2:(now==now')=false:=by simp[e2]
   go_enter func119,ntmps119;go_upto_region 1 with fail;rw[←HW.out];clear HW;go_wp2_with fail
   all_goals (try go_wp2)
   all_goals (try go_ret)
   all_goals exact Says.no (by first|exact id|exact fun h=>e2 h.1.2.1) bW
 ·have b1:(wd==wd')=false:=by simp[e1]
  go_enter func119,ntmps119;go_upto_region 1 with fail;rw[←HW.out];clear HW;go_wp2_with fail
  all_goals (try go_wp2)
  all_goals (try go_ret)
  all_goals exact Says.no (by first|exact id|exact fun h=>e1 h.1.1) bW
section
open Go.RowKit
def notRow:Obj->Bool
 |.cells _ t _=> !(t==9||t==139||t==134||t==137)
 |_=>true
structure KeepsB (B:Nat) (W W':World):Prop where
 size:W.heap.size<=W'.heap.size
 same:∀b o,B<=b->W.heap[b]?=some o->notRow o=true->W'.heap[b]?=some o
theorem KeepsB.refl (B:Nat) (W:World):KeepsB B W W:=⟨Nat.le_refl _,fun _ _ _ h _=>h⟩
theorem KeepsB.trans {B:Nat} {X Y Z:World} (h:KeepsB B X Y) (k:KeepsB B Y Z):KeepsB B X Z:=⟨Nat.le_trans h.size k.size,fun b o hb hx ho=>k.same b o hb (h.same b o hb hx ho) ho⟩
theorem KeepsB.mono {B B':Nat} {W W':World} (h:KeepsB B W W') (hB:B<=B'):KeepsB B' W W':=⟨h.size,fun b o hb=>h.same b o (by omega)⟩
def Stable (B:Nat) (J:Nat->World->Prop):Prop:=
 ∀k W W' row,J k W->W.grownBy W' row->(∀r,row=some r->B<=r/\∃o,W.heap[r]?=some o/\notRow o=true)->J k W'
theorem Stable.mono {B B':Nat} {J:Nat->World->Prop} (h:Stable B J) (hB:B<=B'):Stable B' J:=
 fun k W W' row hj hg hr=>h k W W' row hj hg (fun r e=>⟨Nat.le_trans hB (hr r e).1,(hr r e).2⟩)
theorem Stable.putObj {B:Nat} {J:Nat->World->Prop} (h:Stable B J) {k:Nat} {W:World} {l:Nat} {o:Obj} (o':Obj) (hj:J k W) (hB:B<=l) (hl:W.heap[l]?=some o) (ho:notRow o=true):J k (W.putObj l o'):=
 h k W _ (some l) hj (grownBy_putObj' W l o') (fun r e=>by cases e;exact⟨hB,o,hl,ho⟩)
theorem Stable.alloc {B:Nat} {J:Nat->World->Prop} (h:Stable B J) {k:Nat} {W:World} (o:Obj) (hj:J k W):J k (W.alloc o):=
 h k W _ none hj ⟨rfl,rfl,rfl,by simp,fun i hi _=>Below.heap_alloc W o i hi⟩ (fun r e=>by cases e)
def IterOk (P:Program) (gf:Nat) (ar:Nat->Array Value) (xs:List ByteArray) (n0:Nat) (w:World):Prop:=
 ∀(l:Nat) (J Jx:Nat->World->Prop) (W:World),Below w.heap.size w W->Stable W.heap.size J->Stable W.heap.size Jx->
  (∀k W1 s,xs[k]?=some s->J k W1->W.heap.size<=W1.heap.size->∀m,YieldAt Fence.wide m P l #[.string s] W1 fun e W'=>
    KeepsB W.heap.size W1 W'/\((e=.returned (.bool true)/\J (k+1) W'/\Below n0 W1 W')∨(e=.returned (.bool false)/\Jx (k+1) W')))->
  J 0 W->∀m,CallsIn Fence.wide m P gf (ar l) W fun e W'=>(∃v,e=.returned v)/\(J xs.length W'∨∃k,Jx k W')
def roundQ (n0 B:Nat) (I:Nat->World->Prop) (Ix:Nat->World->Prop) (k:Nat) (W:World):Exit->Act->World->Prop
 |.normal,_,W'=>KeepsB B W W'/\I (k+1) W'/\Below n0 W W'
 |.ret,_,W'=>KeepsB B W W'/\Ix (k+1) W'
 |_,_,_=>False
theorem wp_range {P:Program} {n:Nat} {g:Operand} {ps:Array Tmp} {assign body:Code} {Q:Exit->Act->World->Prop} {a:Act} {w:World}
 {gf:Nat} {pre lb:Array Value} (hg:a.eval g=.func (.func gf) pre lb) (eg:∀args w,(callFunc gf args).run P w=.ok (.enter gf args) w)
 {xs:List ByteArray} {n0:Nat} (hseq:IterOk P gf (fun l=>pre++ #[.func (.yield l) #[] #[]]++lb) xs n0 w) (hn0:n0<=w.heap.size) (hps:ps.size=1)
 (I Ix:Nat->World->Prop) (hI:Stable w.heap.size I) (hIx:Stable w.heap.size Ix) (h0:I 0 w) (a1:ByteArray->Act)
 (hassign:∀(l m:Nat) (s:ByteArray) (W:World) (K:Act->World->Prop),K (a1 s) W->
   assign.wpIn (Fence.wide.inRound l) m P (Exit.then K (fun _ _ _=>False)) {tmps:=(ps.zip #[.string s]).foldl (fun t (p,v)=>t.setIfInBounds p v) a.tmps,defers:=[]} W)
 (hbody:∀(l m k:Nat) (s:ByteArray) (W:World),xs[k]?=some s->I k W->w.heap.size+2<=W.heap.size->body.wpIn (Fence.wide.inRound l) m P (roundQ n0 w.heap.size I Ix k W) (a1 s) W)
 (hdone:∀(D:Nat) (W:World),w.heap.size<=D->I xs.length W->W.heap[D]?=some (.deferred (some []))->Q .normal {a with defers:={target:=.collected D,args:= #[]}::a.defers} W)
 (hstop:∀(D k:Nat) (W:World),w.heap.size<=D->Ix k W->W.heap[D]?=some (.deferred (some []))->Code.ret.wpIn Fence.wide n P Q {a with defers:={target:=.collected D,args:= #[]}::a.defers} W):
 (Code.rangeFunc g ps assign body).wpIn Fence.wide n P Q a w:=by
 refine wpIn_rangeFunc ?_;intro fn hfn;obtain⟨rec,hrec⟩:∃rec:LoopState->Option Code->Loop,rec=fun st pe=>{state:=st,pending:=pe,fn,tmps:=a.tmps,params:=ps,assign,body,defers:=w.heap.size}:=⟨_,rfl⟩;obtain⟨V,hV⟩:∃V,V=(w.alloc (.deferred (some []))).alloc (.loop (rec .ready none)):=⟨_,rfl⟩;have hVs:V.heap.size=w.heap.size+2:=by rw[hV];simp
 have hVl:V.heap[w.heap.size+1]?=some (.loop (rec .ready none)):=by
  have:=World.alloc_heap_new (w.alloc (.deferred (some []))) (.loop (rec .ready none));rw[World.size_alloc] at this;rw[hV];exact this
 have hVd:V.heap[w.heap.size]?=some (.deferred (some [])):=by
  rw[hV];exact(Below.heap_alloc _ _ _ (by simp)).trans (World.alloc_heap_new w _)
 have hVb:Below w.heap.size w V:=by
  rw[hV];exact((Below.refl _ w).alloc (Nat.le_refl _) _).alloc (by simp) _
 have hVI:I 0 V:=by rw[hV];exact hI.alloc _ (hI.alloc _ h0)
 refine⟨w.heap.size+1,[{target:=.collected w.heap.size,args:= #[]}],V,{target:=.fn (.func gf) lb,args:=pre++ #[.func (.yield (w.heap.size+1)) #[] #[]]},V,gf,
  pre++ #[.func (.yield (w.heap.size+1)) #[] #[]]++lb,V,?_,?_,fun _ _=>trivial,?_,fun h=>by simp[Fence.wide] at h,?_⟩
 ·rw[hV,hrec];exact run_enterLoop_outer _ _ _ _ _
 ·simp only[resolve,hg]
  simp[go_sem]
 ·simp[invoke,go_sem,eg]
 ·have hnr:∀{A:World} {row:Option Nat},(∀r,row=some r->V.heap.size<=r/\∃o:Obj,A.heap[r]?=some o/\notRow o=true)->(∀r,row=some r->w.heap.size<=r/\∃o:Obj,A.heap[r]?=some o/\notRow o=true):=
   fun hr r e=>⟨by have:=(hr r e).1;omega,(hr r e).2⟩
  have hkeep:∀{A B:World} {row:Option Nat} {k:Nat} {o:Obj},A.grownBy B row->(∀r,row=some r->V.heap.size<=r/\∃o:Obj,A.heap[r]?=some o/\notRow o=true)->k<V.heap.size->A.heap[k]?=some o->B.heap[k]?=some o:=
   fun {A B row k o} hg' hr hk ho=>(hg'.block k (Array.getElem?_eq_some_iff.1 ho).1 (fun e=>by have:=(hr k e.symm).1;omega)).trans ho
  refine(hseq (w.heap.size+1)
   (fun k W=>I k W/\W.heap[w.heap.size+1]?=some (.loop (rec .ready none))/\W.heap[w.heap.size]?=some (.deferred (some [])))
   (fun k W=>Ix k W/\W.heap[w.heap.size+1]?=some (.loop (rec .done (some .ret)))/\W.heap[w.heap.size]?=some (.deferred (some [])))
   V hVb
   (fun s A B row hs hg' hr=>⟨hI s A B row hs.1 hg' (hnr hr),hkeep hg' hr (by omega) hs.2.1,hkeep hg' hr (by omega) hs.2.2⟩)
   (fun s A B row hs hg' hr=>⟨hIx s A B row hs.1 hg' (hnr hr),hkeep hg' hr (by omega) hs.2.1,hkeep hg' hr (by omega) hs.2.2⟩)
   ?_ ⟨hVI,hVl,hVd⟩ _).mono ?_
  ·rintro k W s hxs ⟨hi,hl,hk⟩ hVW m
   have hlt:w.heap.size+1<W.heap.size:=(Array.getElem?_eq_some_iff.1 hl).1;have hy:=run_yield (P:=P) (args:= #[.string s]) hl (by rw[hrec];exact hps.symm);rw[hrec] at hy;refine⟨fn,_,assign,body,hy,roundIn_of_wpIn hfn (hassign _ _ s W _ ?_)⟩;clear hy;refine⟨_,run_beginRound hl (by rw[hrec]),?_⟩
   have hl2:(W.putObj (w.heap.size+1) (.loop {rec .ready none with state:=.busy})).heap[w.heap.size+1]?=some (.loop {rec .ready none with state:=.busy}):=World.putObj_heap_same hlt;have hk2:(W.putObj (w.heap.size+1) (.loop {rec .ready none with state:=.busy})).heap[w.heap.size]?=some (.deferred (some [])):=(World.putObj_heap_other (by omega)).trans hk
   refine wpIn_mono (hbody _ _ k s _ hxs (hI.putObj _ hi (by omega) hl rfl) (by rw[World.putObj_size];omega)) ?_;have fin:∀(jump:Option Code) (W3:World),KeepsB w.heap.size (W.putObj (w.heap.size+1) (.loop {rec .ready none with state:=.busy})) W3->
    (Instr.endRound (w.heap.size+1) jump).run P W3=.ok (.bool jump.isNone) (W3.putObj (w.heap.size+1) (.loop (rec (if jump.isNone then .ready else .done) jump)))/\
    W3.heap[w.heap.size+1]?=some (.loop {rec .ready none with state:=.busy})/\
    (W3.putObj (w.heap.size+1) (.loop (rec (if jump.isNone then .ready else .done) jump))).heap[w.heap.size+1]?=some (.loop (rec (if jump.isNone then .ready else .done) jump))/\
    (W3.putObj (w.heap.size+1) (.loop (rec (if jump.isNone then .ready else .done) jump))).heap[w.heap.size]?=some (.deferred (some []))/\
    KeepsB V.heap.size W (W3.putObj (w.heap.size+1) (.loop (rec (if jump.isNone then .ready else .done) jump))):=fun jump W3 hk3=>by
    have hl3:=hk3.same _ _ (by omega) hl2 rfl;have:=run_endRound (P:=P) jump hl3;have hK5:KeepsB V.heap.size W (W3.putObj (w.heap.size+1) (.loop (rec (if jump.isNone then .ready else .done) jump))):=by
     refine⟨by have:=hk3.size;rw[World.putObj_size] at this ⊢;exact this,fun b o hb ho hn=> ?_⟩;rw[World.putObj_heap_other (by omega)];exact hk3.same b o (by omega) ((World.putObj_heap_other (by omega)).trans ho) hn
    refine⟨?_,hl3,World.putObj_heap_same (Array.getElem?_eq_some_iff.1 hl3).1,(World.putObj_heap_other (by omega)).trans (hk3.same _ _ (Nat.le_refl _) hk2 rfl),hK5⟩;rw[hrec] at this ⊢;exact this
   rintro e a3 W3 hp;have hb1:∀o,Below n0 W (W.putObj (w.heap.size+1) o):=fun o=>⟨rfl,rfl,rfl,by simp,fun i hi=>World.putObj_heap_other (by omega)⟩;cases e with
   |normal=>
    obtain⟨hk3,hi3,hbl⟩:=hp;obtain⟨hr,hl3,hl4,hk4,hk5⟩:=fin none W3 hk3;exact⟨_,_,hr,hk5,.inl ⟨rfl,⟨hI.putObj _ hi3 (by omega) hl3 rfl,hl4,hk4⟩,((hb1 _).trans hbl).trans ⟨rfl,rfl,rfl,by simp,fun i hi=>World.putObj_heap_other (by omega)⟩⟩⟩
   |ret=>
    obtain⟨hk3,hi3⟩:=hp;obtain⟨hr,hl3,hl4,hk4,hk5⟩:=fin (some .ret) W3 hk3;exact⟨_,_,hr,hk5,.inr ⟨rfl,hIx.putObj _ hi3 (by omega) hl3 rfl,hl4,hk4⟩⟩
   |exit id=>exact hp.elim
   |goto t=>exact hp.elim
   |panic ch=>exact hp.elim
   |outgrown=>exact hp.elim
  ·rintro e W2 ⟨⟨v,rfl⟩,(⟨hi,hl,hk⟩|⟨k,hi,hl,hk⟩)⟩
   ·exact⟨none,_,by have:=run_endLoop (P:=P) hl (by rw[hrec];simp);rw[hrec] at this;exact this,hdone _ _ (Nat.le_refl _) (hI.putObj _ hi (by omega) hl rfl) ((World.putObj_heap_other (by omega)).trans hk)⟩
   ·exact⟨some .ret,_,by have:=run_endLoop (P:=P) hl (by rw[hrec];simp);rw[hrec] at this;exact this,hstop _ k _ (Nat.le_refl _) (hIx.putObj _ hi (by omega) hl rfl) ((World.putObj_heap_other (by omega)).trans hk)⟩
end
section
open Go.RowKit
attribute [local go_sem] Oper.semAt_some
theorem kept_iter (a:Option Addr) (cap:Nat) (ss:List ByteArray) (n0:Nat) (w:World) (hrow:SRow w n0 a ss) (hn0:n0<=w.heap.size) (hl:ss.length<=maxLen):
 IterOk prog 109 (fun l=> #[.agg #[.slice a ss.length cap],.func (.yield l) #[] #[]]) ss n0 w:=by
 intro l J Jx W hW hJ hJx hY h0 m;unfold maxLen at hl;have hrow':=hrow.below (hW.mono hn0);refine callsIn_of_wp func109 rfl trivial ?_ rfl;simp only[ntmps109,List.size_toArray,List.length_cons,List.length_nil,Nat.reduceAdd,Nat.reduceSub,Array.replicate_succ,Array.replicate_zero,List.push_toArray,List.append_toArray,List.nil_append,List.cons_append]
 gi_wp2
 gi_loopw [9] (fun i wr=>∃k:Nat,k<=ss.length/\i=.int .i64 k/\J k wr/\Below n0 W wr/\W.heap.size<=wr.heap.size)
  (fun i _=>ss.length -(intOf i).toNat)
 case atStart=>exact⟨0,Nat.zero_le _,rfl,hJ.alloc _ h0,(Below.refl _ _).alloc (Nat.le_trans hn0 hW.size) _,by simp⟩
 case round=>
  obtain⟨k,hk,rfl,hJs,hnx,hsz⟩:=hrel;by_cases hlt:k<ss.length
  ·obtain⟨b,off,ha,hb,hc⟩:=(hrow'.below hnx).at hlt
   subst ha;have hck:=hc k ss[k] (List.getElem?_eq_getElem hlt);obtain⟨fn,tmps,assign,body,hy,hR⟩:=hY k wr ss[k] (List.getElem?_eq_getElem hlt) hJs hsz (m -1);clear hc hrow hrow' hY;generalize ss[k]=s at *
   gi_wp2
   refine⟨fun h=>by simp[Fence.wide] at h,hR.mono ?_⟩;rintro e W3 ⟨hK,(⟨rfl,hJ3,hk3⟩|⟨rfl,hJx3⟩)⟩
   ·gi_wp2
    go_roundw
    case rel=>exact⟨k+1,by omega,by simp,hJ3,hnx.trans hk3,Nat.le_trans hsz hK.size⟩
    case measure=>simp[intOf];omega
   ·gi_wp2
    refine bodyPost_ret (results_none rfl _ _ _) rfl ?_;exact⟨⟨_,rfl⟩,.inr ⟨_,hJx3⟩⟩
  ·obtain rfl:k=ss.length:=by omega
   gi_wp2
   go_end0
   exact⟨⟨_,rfl⟩,.inl hJs⟩
theorem open_iter (v:Value) (a:Option Addr) (cap:Nat) (ss:List ByteArray) (n0:Nat) (w:World) (hrow:SRow w n0 a ss) (hn0:n0<=w.heap.size) (hl:ss.length<=maxLen):
 IterOk prog 110 (fun l=> #[.agg #[v,.slice a ss.length cap],.func (.yield l) #[] #[]]) ss n0 w:=by
 intro l J Jx W hW hJ hJx hY h0 m;unfold maxLen at hl;have hrow':=hrow.below (hW.mono hn0);refine callsIn_of_wp func110 rfl trivial ?_ rfl;simp only[ntmps110,List.size_toArray,List.length_cons,List.length_nil,Nat.reduceAdd,Nat.reduceSub,Array.replicate_succ,Array.replicate_zero,List.push_toArray,List.append_toArray,List.nil_append,List.cons_append]
 gi_wp2
 gi_loopw [9] (fun i wr=>∃k:Nat,k<=ss.length/\i=.int .i64 k/\J k wr/\Below n0 W wr/\W.heap.size<=wr.heap.size)
  (fun i _=>ss.length -(intOf i).toNat)
 case atStart=>exact⟨0,Nat.zero_le _,rfl,hJ.alloc _ h0,(Below.refl _ _).alloc (Nat.le_trans hn0 hW.size) _,by simp⟩
 case round=>
  obtain⟨k,hk,rfl,hJs,hnx,hsz⟩:=hrel;by_cases hlt:k<ss.length
  ·obtain⟨b,off,ha,hb,hc⟩:=(hrow'.below hnx).at hlt
   subst ha;have hck:=hc k ss[k] (List.getElem?_eq_getElem hlt);obtain⟨fn,tmps,assign,body,hy,hR⟩:=hY k wr ss[k] (List.getElem?_eq_getElem hlt) hJs hsz (m -1);clear hc hrow hrow' hY;generalize ss[k]=s at *
   gi_wp2
   refine⟨fun h=>by simp[Fence.wide] at h,hR.mono ?_⟩;rintro e W3 ⟨hK,(⟨rfl,hJ3,hk3⟩|⟨rfl,hJx3⟩)⟩
   ·gi_wp2
    go_roundw
    case rel=>exact⟨k+1,by omega,by simp,hJ3,hnx.trans hk3,Nat.le_trans hsz hK.size⟩
    case measure=>simp[intOf];omega
   ·gi_wp2
    refine bodyPost_ret (results_none rfl _ _ _) rfl ?_;exact⟨⟨_,rfl⟩,.inr ⟨_,hJx3⟩⟩
  ·obtain rfl:k=ss.length:=by omega
   gi_wp2
   go_end0
   exact⟨⟨_,rfl⟩,.inl hJs⟩
end
section
open Go.RowKit
attribute [local go_sem] Oper.semAt_some
theorem Stable.and {B:Nat} {J K:Nat->World->Prop} (h:Stable B J) (k:Stable B K):Stable B (fun n W=>J n W/\K n W):=
 fun n W W' row hj hg hr=>⟨h n W W' row hj.1 hg hr,k n W W' row hj.2 hg hr⟩
theorem stable_below {B n0:Nat} (w:World) (hw:n0<=w.heap.size) (hn:n0<=B):Stable B (fun _ W=>Below n0 w W):=
 fun _ W W' row hj hg hr=>⟨hg.os.trans hj.os,hg.tape.trans hj.tape,hg.output.trans hj.output,Nat.le_trans hj.size hg.size,fun k hk=>
  (hg.block k (by have:=hj.size;omega) (fun e=>by have:=(hr k e.symm).1;omega)).trans (hj.block k hk)⟩
theorem stable_block {B b:Nat} (o:Obj) (hb:b<B):Stable B (fun _ W=>W.heap[b]?=some o):=
 fun _ W W' row hj hg hr=>(hg.block b (Array.getElem?_eq_some_iff.1 hj).1 (fun e=>by have:=(hr b e.symm).1;omega)).trans hj
theorem all_iter (a a':Option Addr) (cap cap':Nat) (ss tt:List ByteArray) (n0:Nat) (w:World) (hrow:SRow w n0 a ss) (hrow':SRow w n0 a' tt) (hn0:n0<=w.heap.size) (hl:ss.length<=maxLen) (hl':tt.length<=maxLen):
 IterOk prog 59 (fun l=> #[.agg #[.slice a ss.length cap,.slice a' tt.length cap'],.func (.yield l) #[] #[]]) (ss++tt) n0 w:=by
 intro l J Jx W hW hJ hJx hY h0 m;refine callsIn_of_wp_marks func59 rfl trivial ?_ rfl;simp only[ntmps59,List.size_toArray,List.length_cons,List.length_nil,Nat.reduceAdd,Nat.reduceSub,Array.replicate_succ,Array.replicate_zero,List.push_toArray,List.append_toArray,List.nil_append,List.cons_append]
 gi_wp2
 have hWn:n0<=W.heap.size:=Nat.le_trans hn0 hW.size;obtain⟨W0,hW0⟩:∃W0,W0=(W.alloc (.cells #[.slice a ss.length cap,.slice a' tt.length cap'] 99)).alloc (.cells #[.func (.yield l) #[] #[]] 125):=⟨_,rfl⟩;have hs0:W0.heap.size=W.heap.size+2:=by rw[hW0];simp
 have hd0:W0.heap[W.heap.size]?=some (.cells #[.slice a ss.length cap,.slice a' tt.length cap'] 99):=by
  rw[hW0];exact(Below.heap_alloc _ _ _ (by simp)).trans (World.alloc_heap_new _ _)
 have hy0:W0.heap[W.heap.size+1]?=some (.cells #[.func (.yield l) #[] #[]] 125):=by
  rw[hW0];have:=World.alloc_heap_new (W.alloc (.cells #[.slice a ss.length cap,.slice a' tt.length cap'] 99)) (.cells #[.func (.yield l) #[] #[]] 125);rwa[World.size_alloc] at this
 have hb0:Below n0 W W0:=by rw[hW0];exact((Below.refl _ W).alloc hWn _).alloc (by simp;omega) _
 have hJ0:J 0 W0:=by rw[hW0];exact hJ.alloc _ (hJ.alloc _ h0)
 rw[←hW0];clear hW0;have hr1:SRow W0 n0 a ss:=(hrow.below (hW.mono hn0)).below hb0;have hr2:SRow W0 n0 a' tt:=(hrow'.below (hW.mono hn0)).below hb0;refine wp_range (gf:=109) (pre:= #[.agg #[.slice a ss.length cap]]) (lb:= #[]) rfl (enters_of func109 (by kernel_rfl) rfl) (xs:=ss) (n0:=n0)
  (by simpa using kept_iter a cap ss n0 W0 hr1 (by omega) hl) (by omega) rfl
  (fun k V=>J k V/\Below n0 W0 V/\V.heap[W.heap.size]?=some (.cells #[.slice a ss.length cap,.slice a' tt.length cap'] 99)/\V.heap[W.heap.size+1]?=some (.cells #[.func (.yield l) #[] #[]] 125))
  Jx ((hJ.mono (by omega)).and ((stable_below W0 (by omega) (by omega)).and ((stable_block _ (by omega)).and (stable_block _ (by omega))))) (hJx.mono (by omega))
  ⟨hJ0,Below.refl _ _,hd0,hy0⟩ (fun s=>{tmps:= #[.agg #[.slice a ss.length cap,.slice a' tt.length cap'],.func (.yield l) #[] #[],.pointer (some ⟨W.heap.size,0,none⟩),.pointer (some ⟨W.heap.size+1,0,none⟩),.string s,undef,
   .pointer (some ⟨W.heap.size,0,none⟩),.agg #[.slice a ss.length cap],.func (.func 109) #[.agg #[.slice a ss.length cap]] #[],.string s,undef,undef,undef,undef,undef,undef,undef,undef,undef,undef,undef],defers:=[]}) ?assign ?body ?done ?stop
 case assign=>
  intro l2 m2 s V K hK
  gi_wp2
  exact hK
 case body=>
  rintro l2 m2 k s V hs ⟨hj,hbl,hcd,hcy⟩ hsz;obtain⟨fn,tmps,assign,body,hy,hR⟩:=hY k V s (by rw[List.getElem?_append_left (List.getElem?_eq_some_iff.1 hs).1];exact hs) hj (by omega) (m2 -1);have hcc:V.cell? ⟨W.heap.size+1,0,none⟩=some (.func (.yield l) #[] #[]):=by simp[World.cell?,hcy]
  gi_wp2
  refine⟨fun h=>by simp[Fence.wide] at h,RoundIn.mono (F:=Fence.wide.inRound l2) hR ?_⟩;rintro e V3 ⟨hKB,(⟨rfl,hJ3,hk3⟩|⟨rfl,hJx3⟩)⟩
  ·gi_wp2
   exact⟨hKB.mono (by omega),⟨hJ3,hbl.trans hk3,hKB.same _ _ (by omega) hcd rfl,hKB.same _ _ (by omega) hcy rfl⟩,hk3⟩
  ·gi_wp2
   exact⟨hKB.mono (by omega),hJx3⟩
 case done=>
  rintro D V hD ⟨hj,hbl,hcd,hcy⟩ hK;have hc1:V.cell? ⟨W.heap.size,0,none⟩=some (.slice a ss.length cap):=by simp[World.cell?,hcd]
  have hc2:V.cell? ⟨W.heap.size,1,none⟩=some (.slice a' tt.length cap'):=by simp[World.cell?,hcd]
  gi_wp2
  have hDV:D<V.heap.size:=(Array.getElem?_eq_some_iff.1 hK).1;have hy1:W.heap.size+1<V.heap.size:=(Array.getElem?_eq_some_iff.1 hcy).1;refine wp_range (gf:=110) (pre:= #[.agg #[.slice a ss.length cap,.slice a' tt.length cap']]) (lb:= #[]) rfl (enters_of func110 (by kernel_rfl) rfl) (xs:=tt) (n0:=n0)
   (by simpa using open_iter (.slice a ss.length cap) a' cap' tt n0 V (hr2.below hbl) (by omega) hl') (by omega) rfl
   (fun k X=>J (ss.length+k) X/\X.heap[W.heap.size+1]?=some (.cells #[.func (.yield l) #[] #[]] 125)/\X.heap[D]?=some (.deferred (some [])))
   (fun _ X=>(∃k,Jx k X)/\X.heap[D]?=some (.deferred (some [])))
   (Stable.and (fun k X X' row hj hg hr=>(hJ.mono (by omega)) (ss.length+k) X X' row hj hg hr) ((stable_block _ hy1).and (stable_block _ hDV))) (Stable.and (fun _ X X' row hj hg hr=>hj.elim fun k hk=>⟨k,(hJx.mono (by omega)) k X X' row hk hg hr⟩) (stable_block _ hDV))
   ⟨hj,hcy,hK⟩ (fun s=>{tmps:= #[.agg #[.slice a ss.length cap,.slice a' tt.length cap'],.func (.yield l) #[] #[],.pointer (some ⟨W.heap.size,0,none⟩),.pointer (some ⟨W.heap.size+1,0,none⟩),undef,.string s,
    .pointer (some ⟨W.heap.size,0,none⟩),.agg #[.slice a ss.length cap],.func (.func 109) #[.agg #[.slice a ss.length cap]] #[],undef,undef,undef,undef,undef,
    .agg #[.slice a ss.length cap,.slice a' tt.length cap'],.func (.func 110) #[.agg #[.slice a ss.length cap,.slice a' tt.length cap']] #[],.string s,undef,undef,undef,undef],defers:=[]}) ?assign2 ?body2 ?done2 ?stop2
  case assign2=>
   intro l2 m2 s X K hK
   gi_wp2
   exact hK
  case body2=>
   rintro l2 m2 k s X hs ⟨hj,hcy,hK⟩ hsz;obtain⟨fn,tmps,assign,body,hy,hR⟩:=hY (ss.length+k) X s (by rw[List.getElem?_append_right (by omega),Nat.add_sub_cancel_left];exact hs) hj (by omega) (m2 -1);have hcc:X.cell? ⟨W.heap.size+1,0,none⟩=some (.func (.yield l) #[] #[]):=by simp[World.cell?,hcy]
   gi_wp2
   refine⟨fun h=>by simp[Fence.wide] at h,RoundIn.mono (F:=Fence.wide.inRound l2) hR ?_⟩;rintro e V3 ⟨hKB,(⟨rfl,hJ3,hk3⟩|⟨rfl,hJx3⟩)⟩
   ·gi_wp2
    exact⟨hKB.mono (by omega),⟨hJ3,hKB.same _ _ (by omega) hcy rfl,hKB.same _ _ (by omega) hK rfl⟩,hk3⟩
   ·gi_wp2
    exact⟨hKB.mono (by omega),⟨_,hJx3⟩,hKB.same _ _ (by omega) hK rfl⟩
  case done2=>
   rintro D2 X hD2 ⟨hj,hcy,hK⟩ hK2
   gi_wp2
   refine⟨by simp,.inl ⟨_,_,rfl,run_takeDeferred hK2,by simp,.inl ⟨_,_,rfl,run_takeDeferred ((World.putObj_heap_other (by omega)).trans hK),?_⟩⟩⟩;refine⟨_,results_none rfl _ _ _,⟨_,rfl⟩,.inl ?_⟩;rw[List.length_append];exact hJ.putObj _ (hJ.putObj _ hj (by omega) hK2 rfl) (by omega) ((World.putObj_heap_other (by omega)).trans hK) rfl
  case stop2=>
   rintro D2 k X hD2 ⟨⟨k2,hjx⟩,hK⟩ hK2
   gi_wp2
   refine⟨by simp,.inl ⟨_,_,rfl,run_takeDeferred hK2,by simp,.inl ⟨_,_,rfl,run_takeDeferred ((World.putObj_heap_other (by omega)).trans hK),?_⟩⟩⟩;refine⟨_,results_none rfl _ _ _,⟨_,rfl⟩,.inr ⟨k2,?_⟩⟩;exact hJx.putObj _ (hJx.putObj _ hjx (by omega) hK2 rfl) (by omega) ((World.putObj_heap_other (by omega)).trans hK) rfl
 case stop=>
  rintro D k V hD hjx hK
  gi_wp2
  refine⟨by simp,.inl ⟨_,_,rfl,run_takeDeferred hK,?_⟩⟩;exact⟨_,results_none rfl _ _ _,⟨_,rfl⟩,.inr ⟨k,hJx.putObj _ hjx (by omega) hK rfl⟩⟩
end
theorem Dr.stable {V V':World} {base d m B:Nat} {O P L:Value} {wd now given births:Int} {ks:List Kd} {ps:List Pd} {ls:List Ld} (h:Dr V base d m O P L wd now given births ks ps ls) (hd:d<B) (hm:m<B) (hb:base<=B) {row:Option Nat} (hg:V.grownBy V' row) (hr:∀r,row=some r->B<=r/\∃o,V.heap[r]?=some o/\notRow o=true):Dr V' base d m O P L wd now given births ks ps ls:=by
 refine(DU.turn ⟨h⟩ (tn_grown hg) (fun r hr'=> ?_)).dr;obtain⟨h1,o,h2,h3⟩:=hr r (by simpa using hr');refine⟨by omega,fun hv=> ?_,fun cur fz e=> ?_⟩
 ·unfold vB at hv
  simp only[List.mem_cons,List.mem_append,Option.mem_toList] at hv;rcases hv with e|e|e|e|e
  ·omega
  ·omega
  ·obtain⟨c,hc⟩:=own_type h.ord e
   rw[h2] at hc;cases hc;simp[notRow] at h3
  ·obtain⟨c,hc⟩:=own_type h.pin e
   rw[h2] at hc;cases hc;simp[notRow] at h3
  ·obtain⟨c,hc⟩:=own_type h.lea e
   rw[h2] at hc;cases hc;simp[notRow] at h3
 ·rw[h2] at e
  cases e;simp[notRow] at h3
theorem Dr.boxNotin {V:World} {base d m b:Nat} {O P L:Value} {wd now given births:Int} {ks:List Kd} {ps:List Pd} {ls:List Ld} (h:Dr V base d m O P L wd now given births ks ps ls) {o:Obj} (hx:V.heap[b]?=some o) (ho:notRow o=true) (hd:b≠d) (hm:b≠m):b∉vB d m O P L/\NS V b:=by
 refine⟨fun hv=> ?_,fun cur fz e=> ?_⟩
 ·unfold vB at hv
  simp only[List.mem_cons,List.mem_append,Option.mem_toList] at hv;rcases hv with e|e|e|e|e
  ·exact hd e
  ·exact hm e
  ·obtain⟨c,hc⟩:=own_type h.ord e
   rw[hx] at hc;cases hc;simp[notRow] at ho
  ·obtain⟨c,hc⟩:=own_type h.pin e
   rw[hx] at hc;cases hc;simp[notRow] at ho
  ·obtain⟨c,hc⟩:=own_type h.lea e
   rw[hx] at hc;cases hc;simp[notRow] at ho
 ·rw[hx] at e
  cases e;simp[notRow] at ho
theorem Dr.rebase {V:World} {base base' d m:Nat} {O P L:Value} {wd now given births:Int} {ps:List Pd} {ls:List Ld} (h:Dr V base d m O P L wd now given births [] ps ls) (hb:base'<=base):Dr V base' d m O P L wd now given births [] ps ls:=by
 obtain⟨n,f,h1,h2,h3⟩:=h.map;refine⟨h.box,⟨n,f,h1,h2,fun s hs=> ?_⟩,h.ord.mono hb,h.pin.mono hb,h.lea.mono hb,Nat.le_trans hb h.bd,Nat.le_trans hb h.bm,h.ap⟩;rcases h3 s hs with h|⟨u,_,_,hu,_⟩
 ·exact .inl h
 ·simp at hu
theorem Dr.keepsB {V V':World} {base d m B:Nat} {O P L:Value} {wd now given births:Int} {ks:List Kd} {ps:List Pd} {ls:List Ld} (h:Dr V base d m O P L wd now given births ks ps ls) (hd:d<B) (hm:m<B) (ht:Tn (vB d m O P L) V V'):KeepsB B V V':=by
 refine⟨ht.size,fun b o hb hx ho=>(ht.block b (Array.getElem?_eq_some_iff.1 hx).1 (fun hv=> ?_)).trans hx⟩;unfold vB at hv;simp only[List.mem_cons,List.mem_append,Option.mem_toList] at hv;rcases hv with e|e|e|e|e
 ·omega
 ·omega
 ·obtain⟨c,hc⟩:=own_type h.ord e
  rw[hx] at hc;cases hc;simp[notRow] at ho
 ·obtain⟨c,hc⟩:=own_type h.pin e
  rw[hx] at hc;cases hc;simp[notRow] at ho
 ·obtain⟨c,hc⟩:=own_type h.lea e
  rw[hx] at hc;cases hc;simp[notRow] at ho
theorem KeepsB.ofG {B:Nat} {W W':World} {row:Option Nat} (hg:W.grownBy W' row) (hrow:∀j,row=some j->j<B):KeepsB B W W':=
 ⟨hg.size,fun b _ hb h _=>(hg.block b (Array.getElem?_eq_some_iff.1 h).1 (fun e=>by have:=hrow b e.symm;omega)).trans h⟩
theorem KeepsB.below {B:Nat} {V V':World} (h:Below V.heap.size V V'):KeepsB B V V':=⟨h.size,fun b _ _ hx _=>(h.block b (Array.getElem?_eq_some_iff.1 hx).1).trans hx⟩
end Go.Proofs.YtpekbmegopfhfaaGreatDoor
