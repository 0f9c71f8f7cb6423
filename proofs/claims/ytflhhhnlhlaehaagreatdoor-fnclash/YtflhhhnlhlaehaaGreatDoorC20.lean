import Derived.Test.YtflhhhnlhlaehaaGreatDoorC19
import Derived.RangeFuncNested
import Derived.Shelf.Abstract
import Derived.Shelf.RegionOpen
import Derived.RangeFuncBound
import Derived.RangeFuncCalls
import Derived.RangeFuncLeaves
import Derived.OwnWalkIn
import Derived.TacticsInMore
import Derived.LoopNIn
import Derived.LoopIn
set_option maxRecDepth 100000
set_option maxHeartbeats 16000000
namespace Go.Proofs.YtflhhhnlhlaehaaGreatDoor
open Go.ChangeShapes Go.WideShapes Go.ChangeAt Go.RowKit _root_.Go.Proofs.Tryz
theorem KB (wd now given births zH zC zB zA:Int) (a p l a' p' l':Option Addr) (ac pc lc zK zJ zI:Nat) (ks zE:List Kd) (ps zD:List Pd) (ls zF:List Ld) (w:World) (hr:BC w w.heap.size a p l ks ps ls) (hq:BC w w.heap.size a' p' l' zE zD zF) (hl:ks.length<=100000/\ps.length<=100000/\ls.length<=100000) (zN:zE.length<=1048576/\zD.length<=1048576/\zF.length<=1048576) (h1:∀k∈ks,k.refs.length<=100000) (h2:∀k∈zE,k.refs.length<=1048576):
 Calls prog 48 #[.agg #[.int .i64 wd,.int .i64 now,.int .i64 given,.int .i64 births,.slice a ks.length ac,.slice p ps.length pc,.slice l ls.length lc],.agg #[.int .i64 zH,.int .i64 zC,.int .i64 zB,.int .i64 zA,.slice a' zE.length zK,.slice p' zD.length zJ,.slice l' zF.length zI]] w fun e w'=>Ao ((wd=zH/\now=zC/\given=zB/\births=zA)/\ks=zE/\ps=zD/\ls=zF) w w' e:=by
 obtain⟨W,hW⟩:∃W,W=(w.alloc (.cells #[.int .i64 wd,.int .i64 now,.int .i64 given,.int .i64 births,.slice a ks.length ac,.slice p ps.length pc,.slice l ls.length lc] 32)).alloc (.cells #[.int .i64 zH,.int .i64 zC,.int .i64 zB,.int .i64 zA,.slice a' zE.length zK,.slice p' zD.length zJ,.slice l' zF.length zI] 32):=⟨_,rfl⟩;have bW:=(Ba hW).1;have x0:=(Ba hW).2.2.1
 have x1:Aa W (w.heap.size+1) [.int .i64 zH,.int .i64 zC,.int .i64 zB,.int .i64 zA,.slice a' zE.length zK,.slice p' zD.length zJ,.slice l' zF.length zI]:=by
  have h1:=Aa.new (w.alloc (.cells #[.int .i64 wd,.int .i64 now,.int .i64 given,.int .i64 births,.slice a ks.length ac,.slice p ps.length pc,.slice l ls.length lc] 32)) [.int .i64 zH,.int .i64 zC,.int .i64 zB,.int .i64 zA,.slice a' zE.length zK,.slice p' zD.length zJ,.slice l' zF.length zI] 32;rw[World.size_alloc] at h1;rw[hW];exact h1
 have HX:Hid (∀X,Uq W X->Aa X w.heap.size [.int .i64 wd,.int .i64 now,.int .i64 given,.int .i64 births,.slice a ks.length ac,.slice p ps.length pc,.slice l ls.length lc]/\Aa X (w.heap.size+1) [.int .i64 zH,.int .i64 zC,.int .i64 zB,.int .i64 zA,.slice a' zE.length zK,.slice p' zD.length zJ,.slice l' zF.length zI]/\Uq w X):=fun X hX=>⟨Aa.below x0 hX,Aa.below x1 hX,bW.trans (hX.mono bW.size)⟩
 have HK:Hid _:=KA a a' ac zK ks zE W (hr.below' bW).k (hq.below' bW).k hl.1 zN.1 h1 h2;have HP:Hid (∀X,Uq W X->Calls prog 72 #[.slice p ps.length pc,.slice p' zD.length zJ] X fun e w'=>Ao (ps=zD) X w' e):=fun X hX=>Nm p p' pc zJ ps zD X (hr.below' (bW.trans (hX.mono bW.size))).p (hq.below' (bW.trans (hX.mono bW.size))).p hl.2.1 zN.2.1
 have HL:Hid (∀X,Uq W X->Calls prog 73 #[.slice l ls.length lc,.slice l' zF.length zI] X fun e w'=>Ao (ls=zF) X w' e):=fun X hX=>Nn l l' lc zI ls zF X (hr.below' (bW.trans (hX.mono bW.size))).l (hq.below' (bW.trans (hX.mono bW.size))).l hl.2.2 zN.2.2;obtain⟨u0,_⟩:=x0 0 _ rfl;obtain⟨v0,_⟩:=x1 0 _ rfl;obtain⟨u1,_⟩:=x0 1 _ rfl;obtain⟨v1,_⟩:=x1 1 _ rfl;obtain⟨u2,_⟩:=x0 2 _ rfl;obtain⟨v2,_⟩:=x1 2 _ rfl
 obtain⟨u3,_⟩:=x0 3 _ rfl;obtain⟨v3,_⟩:=x1 3 _ rfl;obtain⟨u4,_⟩:=x0 4 _ rfl;obtain⟨v4,_⟩:=x1 4 _ rfl;obtain⟨u5,_⟩:=x0 5 _ rfl;obtain⟨v5,_⟩:=x1 5 _ rfl;obtain⟨u6,_⟩:=x0 6 _ rfl;obtain⟨v6,_⟩:=x1 6 _ rfl;have HW:Hid _:=hW;clear hW hr hq x0 x1;by_cases e1:wd=zH
 ·have b1:(wd==zH)=true:=by simp[e1]
  have E1:Hid _:=e1;clear e1;by_cases e2:now=zC
  ·have b2:(now==zC)=true:=by simp[e2]
   have E2:Hid _:=e2;clear e2;by_cases e3:given=zB
   ·have b3:(given==zB)=true:=by simp[e3]
    have E3:Hid _:=e3;clear e3;by_cases e4:births=zA
    ·have b4:(births==zA)=true:=by simp[e4]
     have E4:Hid _:=e4;clear e4;go_enter func48,ntmps48;go_upto_region 1 with fail;rw[←HW.o];clear HW;go_wp2_with fail;refine Calls.mono HK.o ?_;rintro e w1 ⟨bb,rfl,zG,zQ⟩;obtain⟨x0,x1,zT⟩:=HX.o w1 zQ;have zL:Hid _:=zQ;clear u0 v0 u1 v1 u2 v2 u3 v3 u4 v4 u5 v5 u6 v6;obtain⟨u0,_⟩:=x0 0 _ rfl;obtain⟨v0,_⟩:=x1 0 _ rfl;obtain⟨u1,_⟩:=x0 1 _ rfl;obtain⟨v1,_⟩:=x1 1 _ rfl;obtain⟨u2,_⟩:=x0 2 _ rfl
     obtain⟨v2,_⟩:=x1 2 _ rfl;obtain⟨u3,_⟩:=x0 3 _ rfl;obtain⟨v3,_⟩:=x1 3 _ rfl;obtain⟨u4,_⟩:=x0 4 _ rfl;obtain⟨v4,_⟩:=x1 4 _ rfl;obtain⟨u5,_⟩:=x0 5 _ rfl;obtain⟨v5,_⟩:=x1 5 _ rfl;obtain⟨u6,_⟩:=x0 6 _ rfl;obtain⟨v6,_⟩:=x1 6 _ rfl;clear x0 x1;cases bb with
     |false=>
      have zO:ks≠zE:=fun e=>by have:=zG.2 e;cases this
      go_wp2_with fail
      all_goals (try go_wp2)
      all_goals (try go_ret)
      all_goals exact Ao.no (fun h=>zO h.2.1) zT
     |true=>
      have zR:Hid _:=zG.1 rfl;clear zG;go_wp2_with fail;refine Calls.mono (HP.o w1 zL.o) ?_;rintro e w2 ⟨bb,rfl,zG,zV⟩;have zP:Hid _:=zL.o.trans (zV.mono zL.o.size);obtain⟨x0,x1,zM⟩:=HX.o w2 zP.o;clear u0 v0 u1 v1 u2 v2 u3 v3 u4 v4 u5 v5 u6 v6;obtain⟨u0,_⟩:=x0 0 _ rfl;obtain⟨v0,_⟩:=x1 0 _ rfl;obtain⟨u1,_⟩:=x0 1 _ rfl;obtain⟨v1,_⟩:=x1 1 _ rfl;obtain⟨u2,_⟩:=x0 2 _ rfl;obtain⟨v2,_⟩:=x1 2 _ rfl
      obtain⟨u3,_⟩:=x0 3 _ rfl;obtain⟨v3,_⟩:=x1 3 _ rfl;obtain⟨u4,_⟩:=x0 4 _ rfl;obtain⟨v4,_⟩:=x1 4 _ rfl;obtain⟨u5,_⟩:=x0 5 _ rfl;obtain⟨v5,_⟩:=x1 5 _ rfl;obtain⟨u6,_⟩:=x0 6 _ rfl;obtain⟨v6,_⟩:=x1 6 _ rfl;clear x0 x1;cases bb with
      |false=>
       have zO:ps≠zD:=fun e=>by have:=zG.2 e;cases this
       go_wp2_with fail
       all_goals (try go_wp2)
       all_goals (try go_ret)
       all_goals exact Ao.no (fun h=>zO h.2.2.1) zM
      |true=>
       have zS:Hid _:=zG.1 rfl;clear zG;go_wp2_with fail;refine Calls.mono (HL.o w2 zP.o) ?_;rintro e w3 ⟨bb,rfl,zG,zW⟩;have zU:=zM.trans (zW.mono zM.size);clear u0 v0 u1 v1 u2 v2 u3 v3 u4 v4 u5 v5 u6 v6;go_wp2;go_ret;exact⟨bb,rfl,⟨fun h=>⟨⟨E1.o,E2.o,E3.o,E4.o⟩,zR.o,zS.o,zG.1 h⟩,fun h=>zG.2 h.2.2.2⟩,zU⟩
    ·have b4:(births==zA)=false:=by simp[e4]
     go_enter func48,ntmps48;go_upto_region 1 with fail;rw[←HW.o];clear HW;go_wp2_with fail
     all_goals (try go_wp2)
     all_goals (try go_ret)
     all_goals exact Ao.no (by first|exact id|exact fun h=>e4 h.1.2.2.2) bW
   ·have b3:(given==zB)=false:=by simp[e3]
    go_enter func48,ntmps48;go_upto_region 1 with fail;rw[←HW.o];clear HW;go_wp2_with fail
    all_goals (try go_wp2)
    all_goals (try go_ret)
    all_goals exact Ao.no (by first|exact id|exact fun h=>e3 h.1.2.2.1) bW
  ·have b2:(now==zC)=false:=by simp[e2]
   go_enter func48,ntmps48;go_upto_region 1 with fail;rw[←HW.o];clear HW;go_wp2_with fail
   all_goals (try go_wp2)
   all_goals (try go_ret)
   all_goals exact Ao.no (by first|exact id|exact fun h=>e2 h.1.2.1) bW
 ·have b1:(wd==zH)=false:=by simp[e1]
  go_enter func48,ntmps48;go_upto_region 1 with fail;rw[←HW.o];clear HW;go_wp2_with fail
  all_goals (try go_wp2)
  all_goals (try go_ret)
  all_goals exact Ao.no (by first|exact id|exact fun h=>e1 h.1.1) bW
section
open Go.RowKit
def AO:Obj->Bool
 |.cells _ t _=> !(t==9||t==113||t==108||t==111)
 |_=>true
structure AQ (B:Nat) (W W':World):Prop where
 size:W.heap.size<=W'.heap.size
 same:∀b o,B<=b->W.heap[b]?=some o->AO o=true->W'.heap[b]?=some o
theorem AQ.refl (B:Nat) (W:World):AQ B W W:=⟨Us,fun _ _ _ h _=>h⟩
theorem AQ.trans {B:Nat} {X Y Z:World} (h:AQ B X Y) (k:AQ B Y Z):AQ B X Z:=⟨Uz h.size k.size,fun b o hb hx ho=>k.same b o hb (h.same b o hb hx ho) ho⟩
theorem AQ.mono {B B':Nat} {W W':World} (h:AQ B W W') (hB:B<=B'):AQ B' W W':=⟨h.size,fun b o hb=>h.same b o (by omega)⟩
def Bm (B:Nat) (J:Nat->World->Prop):Prop:=
 ∀k W W' row,J k W->W.grownBy W' row->(∀r,row=some r->B<=r/\∃o,W.heap[r]?=some o/\AO o=true)->J k W'
theorem Bm.mono {B B':Nat} {J:Nat->World->Prop} (h:Bm B J) (hB:B<=B'):Bm B' J:=
 fun k W W' row hj hg hr=>h k W W' row hj hg (fun r e=>⟨Uz hB (hr r e).1,(hr r e).2⟩)
theorem Bm.putObj {B:Nat} {J:Nat->World->Prop} (h:Bm B J) {k:Nat} {W:World} {l:Nat} {o:Obj} (o':Obj) (hj:J k W) (hB:B<=l) (hl:W.heap[l]?=some o) (ho:AO o=true):J k (W.putObj l o'):=
 h k W _ (some l) hj (grownBy_putObj' W l o') (fun r e=>by cases e;exact⟨hB,o,hl,ho⟩)
theorem Bm.alloc {B:Nat} {J:Nat->World->Prop} (h:Bm B J) {k:Nat} {W:World} (o:Obj) (hj:J k W):J k (W.alloc o):=
 h k W _ none hj ⟨rfl,rfl,rfl,by simp,fun i hi _=>Below.heap_alloc W o i hi⟩ (fun r e=>by cases e)
def DD (P:Program) (gf:Nat) (ar:Nat->Array Value) (xs:List ByteArray) (n0:Nat) (w:World):Prop:=
 ∀(l:Nat) (J Jx:Nat->World->Prop) (W:World),Uq w W->Bm W.heap.size J->Bm W.heap.size Jx->
  (∀k W1 s,xs[k]?=some s->J k W1->W.heap.size<=W1.heap.size->∀m,YieldAt Fence.wide m P l #[.string s] W1 fun e W'=>
    AQ W.heap.size W1 W'/\((e=.returned (.bool true)/\J (k+1) W'/\Below n0 W1 W')∨(e=.returned (.bool false)/\Jx (k+1) W')))->
  J 0 W->∀m,CallsIn Fence.wide m P gf (ar l) W fun e W'=>(∃v,e=.returned v)/\(J xs.length W'∨∃k,Jx k W')
def Si (n0 B:Nat) (I:Nat->World->Prop) (Ix:Nat->World->Prop) (k:Nat) (W:World):Exit->Act->World->Prop
 |.normal,_,W'=>AQ B W W'/\I (k+1) W'/\Below n0 W W'
 |.ret,_,W'=>AQ B W W'/\Ix (k+1) W'
 |_,_,_=>False
theorem Fa {P:Program} {n:Nat} {g:Operand} {ps:Array Tmp} {assign body:Code} {Q:Exit->Act->World->Prop} {a:Act} {w:World}
 {gf:Nat} {pre lb:Array Value} (hg:a.eval g=.func (.func gf) pre lb) (eg:∀args w,(callFunc gf args).run P w=.ok (.enter gf args) w)
 {xs:List ByteArray} {n0:Nat} (zN:DD P gf (fun l=>pre++ #[.func (.yield l) #[] #[]]++lb) xs n0 w) (yE:n0<=w.heap.size) (yA:ps.size=1)
 (I Ix:Nat->World->Prop) (hI:Bm w.heap.size I) (zI:Bm w.heap.size Ix) (h0:I 0 w) (a1:ByteArray->Act)
 (zC:∀(l m:Nat) (s:ByteArray) (W:World) (K:Act->World->Prop),K (a1 s) W->
   assign.wpIn (Fence.wide.inRound l) m P (Exit.then K (fun _ _ _=>False)) {tmps:=(ps.zip #[.string s]).foldl (fun t (p,v)=>t.setIfInBounds p v) a.tmps,defers:=[]} W)
 (zF:∀(l m k:Nat) (s:ByteArray) (W:World),xs[k]?=some s->I k W->w.heap.size+2<=W.heap.size->body.wpIn (Fence.wide.inRound l) m P (Si n0 w.heap.size I Ix k W) (a1 s) W)
 (zG:∀(D:Nat) (W:World),w.heap.size<=D->I xs.length W->W.heap[D]?=some (.deferred (some []))->Q .normal {a with defers:={target:=.collected D,args:= #[]}::a.defers} W)
 (zH:∀(D k:Nat) (W:World),w.heap.size<=D->Ix k W->W.heap[D]?=some (.deferred (some []))->Code.ret.wpIn Fence.wide n P Q {a with defers:={target:=.collected D,args:= #[]}::a.defers} W):
 (Code.rangeFunc g ps assign body).wpIn Fence.wide n P Q a w:=by
 refine wpIn_rangeFunc ?_;intro fn zW;obtain⟨rec,zA⟩:∃rec:LoopState->Option Code->Loop,rec=fun st pe=>{state:=st,pending:=pe,fn,tmps:=a.tmps,params:=ps,assign,body,defers:=w.heap.size}:=⟨_,rfl⟩;obtain⟨V,hV⟩:∃V,V=(w.alloc (.deferred (some []))).alloc (.loop (rec .ready none)):=⟨_,rfl⟩;have yD:V.heap.size=w.heap.size+2:=by rw[hV];simp
 have zT:V.heap[w.heap.size+1]?=some (.loop (rec .ready none)):=by
  have:=World.alloc_heap_new (w.alloc (.deferred (some []))) (.loop (rec .ready none));rw[World.size_alloc] at this;rw[hV];exact this
 have zS:V.heap[w.heap.size]?=some (.deferred (some [])):=by
  rw[hV];exact(Below.heap_alloc _ _ _ (by simp)).trans (World.alloc_heap_new w _)
 have zR:Below w.heap.size w V:=by
  rw[hV];exact((Below.refl _ w).alloc (Us) _).alloc (by simp) _
 have zQ:I 0 V:=by rw[hV];exact hI.alloc _ (hI.alloc _ h0)
 refine⟨w.heap.size+1,[{target:=.collected w.heap.size,args:= #[]}],V,{target:=.fn (.func gf) lb,args:=pre++ #[.func (.yield (w.heap.size+1)) #[] #[]]},V,gf,
  pre++ #[.func (.yield (w.heap.size+1)) #[] #[]]++lb,V,?_,?_,fun _ _=>trivial,?_,fun h=>by simp[Fence.wide] at h,?_⟩
 ·rw[hV,zA];exact run_enterLoop_outer _ _ _ _ _
 ·simp only[resolve,hg]
  simp[go_sem]
 ·simp[invoke,go_sem,eg]
 ·have zO:∀{A:World} {row:Option Nat},(∀r,row=some r->V.heap.size<=r/\∃o:Obj,A.heap[r]?=some o/\AO o=true)->(∀r,row=some r->w.heap.size<=r/\∃o:Obj,A.heap[r]?=some o/\AO o=true):=
   fun hr r e=>⟨by have:=(hr r e).1;omega,(hr r e).2⟩
  have zB:∀{A B:World} {row:Option Nat} {k:Nat} {o:Obj},A.grownBy B row->(∀r,row=some r->V.heap.size<=r/\∃o:Obj,A.heap[r]?=some o/\AO o=true)->k<V.heap.size->A.heap[k]?=some o->B.heap[k]?=some o:=
   fun {A B row k o} hg' hr hk ho=>(hg'.block k (Array.getElem?_eq_some_iff.1 ho).1 (fun e=>by have:=(hr k e.symm).1;omega)).trans ho
  refine(zN (w.heap.size+1)
   (fun k W=>I k W/\W.heap[w.heap.size+1]?=some (.loop (rec .ready none))/\W.heap[w.heap.size]?=some (.deferred (some [])))
   (fun k W=>Ix k W/\W.heap[w.heap.size+1]?=some (.loop (rec .done (some .ret)))/\W.heap[w.heap.size]?=some (.deferred (some [])))
   V zR
   (fun s A B row hs hg' hr=>⟨hI s A B row hs.1 hg' (zO hr),zB hg' hr (by omega) hs.2.1,zB hg' hr (by omega) hs.2.2⟩)
   (fun s A B row hs hg' hr=>⟨zI s A B row hs.1 hg' (zO hr),zB hg' hr (by omega) hs.2.1,zB hg' hr (by omega) hs.2.2⟩)
   ?_ ⟨zQ,zT,zS⟩ _).mono ?_
  ·rintro k W s yB ⟨hi,hl,hk⟩ yC m
   have zZ:w.heap.size+1<W.heap.size:=(Array.getElem?_eq_some_iff.1 hl).1;have hy:=run_yield (P:=P) (args:= #[.string s]) hl (by rw[zA];exact yA.symm);rw[zA] at hy;refine⟨fn,_,assign,body,hy,roundIn_of_wpIn zW (zC _ _ s W _ ?_)⟩;clear hy;refine⟨_,run_beginRound hl (by rw[zA]),?_⟩
   have zY:(W.putObj (w.heap.size+1) (.loop {rec .ready none with state:=.busy})).heap[w.heap.size+1]?=some (.loop {rec .ready none with state:=.busy}):=World.putObj_heap_same zZ;have zX:(W.putObj (w.heap.size+1) (.loop {rec .ready none with state:=.busy})).heap[w.heap.size]?=some (.deferred (some [])):=(World.putObj_heap_other (by omega)).trans hk
   refine wpIn_mono (zF _ _ k s _ yB (hI.putObj _ hi (by omega) hl rfl) (by rw[World.putObj_size];omega)) ?_;have fin:∀(jump:Option Code) (W3:World),AQ w.heap.size (W.putObj (w.heap.size+1) (.loop {rec .ready none with state:=.busy})) W3->
    (Instr.endRound (w.heap.size+1) jump).run P W3=.ok (.bool jump.isNone) (W3.putObj (w.heap.size+1) (.loop (rec (if jump.isNone then .ready else .done) jump)))/\
    W3.heap[w.heap.size+1]?=some (.loop {rec .ready none with state:=.busy})/\
    (W3.putObj (w.heap.size+1) (.loop (rec (if jump.isNone then .ready else .done) jump))).heap[w.heap.size+1]?=some (.loop (rec (if jump.isNone then .ready else .done) jump))/\
    (W3.putObj (w.heap.size+1) (.loop (rec (if jump.isNone then .ready else .done) jump))).heap[w.heap.size]?=some (.deferred (some []))/\
    AQ V.heap.size W (W3.putObj (w.heap.size+1) (.loop (rec (if jump.isNone then .ready else .done) jump))):=fun jump W3 zD=>by
    have zE:=zD.same _ _ (by omega) zY rfl;have:=run_endRound (P:=P) jump zE;have zP:AQ V.heap.size W (W3.putObj (w.heap.size+1) (.loop (rec (if jump.isNone then .ready else .done) jump))):=by
     refine⟨by have:=zD.size;rw[World.putObj_size] at this ⊢;exact this,fun b o hb ho hn=> ?_⟩;rw[World.putObj_heap_other (by omega)];exact zD.same b o (by omega) ((World.putObj_heap_other (by omega)).trans ho) hn
    refine⟨?_,zE,World.putObj_heap_same (Array.getElem?_eq_some_iff.1 zE).1,(World.putObj_heap_other (by omega)).trans (zD.same _ _ (Us) zX rfl),zP⟩;rw[zA] at this ⊢;exact this
   rintro e a3 W3 hp;have zU:∀o,Below n0 W (W.putObj (w.heap.size+1) o):=fun o=>⟨rfl,rfl,rfl,by simp,fun i hi=>World.putObj_heap_other (by omega)⟩;cases e with
   |normal=>
    obtain⟨zD,zJ,zV⟩:=hp;obtain⟨hr,zE,zM,zK,zL⟩:=fin none W3 zD;exact⟨_,_,hr,zL,.inl ⟨rfl,⟨hI.putObj _ zJ (by omega) zE rfl,zM,zK⟩,((zU _).trans zV).trans ⟨rfl,rfl,rfl,by simp,fun i hi=>World.putObj_heap_other (by omega)⟩⟩⟩
   |ret=>
    obtain⟨zD,zJ⟩:=hp;obtain⟨hr,zE,zM,zK,zL⟩:=fin (some .ret) W3 zD;exact⟨_,_,hr,zL,.inr ⟨rfl,zI.putObj _ zJ (by omega) zE rfl,zM,zK⟩⟩
   |exit id=>exact hp.elim
   |goto t=>exact hp.elim
   |panic ch=>exact hp.elim
   |outgrown=>exact hp.elim
  ·rintro e W2 ⟨⟨v,rfl⟩,(⟨hi,hl,hk⟩|⟨k,hi,hl,hk⟩)⟩
   ·exact⟨none,_,by have:=run_endLoop (P:=P) hl (by rw[zA];simp);rw[zA] at this;exact this,zG _ _ (Us) (hI.putObj _ hi (by omega) hl rfl) ((World.putObj_heap_other (by omega)).trans hk)⟩
   ·exact⟨some .ret,_,by have:=run_endLoop (P:=P) hl (by rw[zA];simp);rw[zA] at this;exact this,zH _ k _ (Us) (zI.putObj _ hi (by omega) hl rfl) ((World.putObj_heap_other (by omega)).trans hk)⟩
end
section
open Go.RowKit
attribute [local go_sem] Oper.semAt_some
theorem Ka (a:Option Addr) (cap:Nat) (ss:List ByteArray) (n0:Nat) (w:World) (zB:Ad w n0 a ss) (zE:n0<=w.heap.size) (hl:ss.length<=maxLen):
 DD prog 40 (fun l=> #[.agg #[.slice a ss.length cap],.func (.yield l) #[] #[]]) ss n0 w:=by
 intro l J Jx W hW hJ zJ hY h0 m;unfold maxLen at hl;have zA:=zB.below (hW.mono zE);refine callsIn_of_wp func40 rfl trivial ?_ rfl;simp only[ntmps40,List.size_toArray,List.length_cons,List.length_nil,Nat.reduceAdd,Nat.reduceSub,Array.replicate_succ,Array.replicate_zero,List.push_toArray,List.append_toArray,List.nil_append,List.cons_append]
 gi_wp2
 gi_loopw [9] (fun i wr=>∃k:Nat,k<=ss.length/\i=.int .i64 k/\J k wr/\Below n0 W wr/\W.heap.size<=wr.heap.size)
  (fun i _=>ss.length -(intOf i).toNat)
 case atStart=>exact⟨0,Nat.zero_le _,rfl,hJ.alloc _ h0,(Below.refl _ _).alloc (Uz zE hW.size) _,by simp⟩
 case round=>
  obtain⟨k,hk,rfl,zD,zF,zG⟩:=hrel;by_cases hlt:k<ss.length
  ·obtain⟨b,off,ha,hb,hc⟩:=(zA.below zF).at hlt
   subst ha;have zK:=hc k ss[k] (Uu hlt);obtain⟨fn,tmps,assign,body,hy,hR⟩:=hY k wr ss[k] (Uu hlt) zD zG (m -1);clear hc zB zA hY;generalize ss[k]=s at *
   gi_wp2
   refine⟨fun h=>by simp[Fence.wide] at h,hR.mono ?_⟩;rintro e W3 ⟨hK,(⟨rfl,zH,zI⟩|⟨rfl,zC⟩)⟩
   ·gi_wp2
    go_roundw
    case rel=>exact⟨k+1,by omega,by simp,zH,zF.trans zI,Uz zG hK.size⟩
    case measure=>simp[intOf];omega
   ·gi_wp2
    refine bodyPost_ret (results_none rfl _ _ _) rfl ?_;exact⟨⟨_,rfl⟩,.inr ⟨_,zC⟩⟩
  ·obtain rfl:k=ss.length:=by omega
   gi_wp2
   go_end0
   exact⟨⟨_,rfl⟩,.inl zD⟩
theorem Kb (v:Value) (a:Option Addr) (cap:Nat) (ss:List ByteArray) (n0:Nat) (w:World) (zB:Ad w n0 a ss) (zE:n0<=w.heap.size) (hl:ss.length<=maxLen):
 DD prog 41 (fun l=> #[.agg #[v,.slice a ss.length cap],.func (.yield l) #[] #[]]) ss n0 w:=by
 intro l J Jx W hW hJ zJ hY h0 m;unfold maxLen at hl;have zA:=zB.below (hW.mono zE);refine callsIn_of_wp func41 rfl trivial ?_ rfl;simp only[ntmps41,List.size_toArray,List.length_cons,List.length_nil,Nat.reduceAdd,Nat.reduceSub,Array.replicate_succ,Array.replicate_zero,List.push_toArray,List.append_toArray,List.nil_append,List.cons_append]
 gi_wp2
 gi_loopw [9] (fun i wr=>∃k:Nat,k<=ss.length/\i=.int .i64 k/\J k wr/\Below n0 W wr/\W.heap.size<=wr.heap.size)
  (fun i _=>ss.length -(intOf i).toNat)
 case atStart=>exact⟨0,Nat.zero_le _,rfl,hJ.alloc _ h0,(Below.refl _ _).alloc (Uz zE hW.size) _,by simp⟩
 case round=>
  obtain⟨k,hk,rfl,zD,zF,zG⟩:=hrel;by_cases hlt:k<ss.length
  ·obtain⟨b,off,ha,hb,hc⟩:=(zA.below zF).at hlt
   subst ha;have zK:=hc k ss[k] (Uu hlt);obtain⟨fn,tmps,assign,body,hy,hR⟩:=hY k wr ss[k] (Uu hlt) zD zG (m -1);clear hc zB zA hY;generalize ss[k]=s at *
   gi_wp2
   refine⟨fun h=>by simp[Fence.wide] at h,hR.mono ?_⟩;rintro e W3 ⟨hK,(⟨rfl,zH,zI⟩|⟨rfl,zC⟩)⟩
   ·gi_wp2
    go_roundw
    case rel=>exact⟨k+1,by omega,by simp,zH,zF.trans zI,Uz zG hK.size⟩
    case measure=>simp[intOf];omega
   ·gi_wp2
    refine bodyPost_ret (results_none rfl _ _ _) rfl ?_;exact⟨⟨_,rfl⟩,.inr ⟨_,zC⟩⟩
  ·obtain rfl:k=ss.length:=by omega
   gi_wp2
   go_end0
   exact⟨⟨_,rfl⟩,.inl zD⟩
end
section
open Go.RowKit
attribute [local go_sem] Oper.semAt_some
theorem Bm.and {B:Nat} {J K:Nat->World->Prop} (h:Bm B J) (k:Bm B K):Bm B (fun n W=>J n W/\K n W):=
 fun n W W' row hj hg hr=>⟨h n W W' row hj.1 hg hr,k n W W' row hj.2 hg hr⟩
theorem CF {B n0:Nat} (w:World) (hw:n0<=w.heap.size) (hn:n0<=B):Bm B (fun _ W=>Below n0 w W):=
 fun _ W W' row hj hg hr=>⟨hg.os.trans hj.os,hg.tape.trans hj.tape,hg.output.trans hj.output,Uz hj.size hg.size,fun k hk=>
  (hg.block k (by have:=hj.size;omega) (fun e=>by have:=(hr k e.symm).1;omega)).trans (hj.block k hk)⟩
theorem BS {B b:Nat} (o:Obj) (hb:b<B):Bm B (fun _ W=>W.heap[b]?=some o):=
 fun _ W W' row hj hg hr=>(hg.block b (Array.getElem?_eq_some_iff.1 hj).1 (fun e=>by have:=(hr b e.symm).1;omega)).trans hj
theorem Ie (a a':Option Addr) (cap zA:Nat) (ss tt:List ByteArray) (n0:Nat) (w:World) (zO:Ad w n0 a ss) (zH:Ad w n0 a' tt) (zN:n0<=w.heap.size) (hl:ss.length<=maxLen) (zW:tt.length<=maxLen):
 DD prog 21 (fun l=> #[.agg #[.slice a ss.length cap,.slice a' tt.length zA],.func (.yield l) #[] #[]]) (ss++tt) n0 w:=by
 intro l J Jx W hW hJ zF hY h0 m;refine callsIn_of_wp_marks func21 rfl trivial ?_ rfl;simp only[ntmps21,List.size_toArray,List.length_cons,List.length_nil,Nat.reduceAdd,Nat.reduceSub,Array.replicate_succ,Array.replicate_zero,List.push_toArray,List.append_toArray,List.nil_append,List.cons_append]
 gi_wp2
 have zT:=Uz zN hW.size;obtain⟨W0,zE⟩:∃W0,W0=(W.alloc (.cells #[.slice a ss.length cap,.slice a' tt.length zA] 66)).alloc (.cells #[.func (.yield l) #[] #[]] 98):=⟨_,rfl⟩;have yE:W0.heap.size=W.heap.size+2:=by rw[zE];simp
 have zV:W0.heap[W.heap.size]?=some (.cells #[.slice a ss.length cap,.slice a' tt.length zA] 66):=by
  rw[zE];exact(Below.heap_alloc _ _ _ (by simp)).trans (World.alloc_heap_new _ _)
 have yA:W0.heap[W.heap.size+1]?=some (.cells #[.func (.yield l) #[] #[]] 98):=by
  rw[zE];have:=World.alloc_heap_new (W.alloc (.cells #[.slice a ss.length cap,.slice a' tt.length zA] 66)) (.cells #[.func (.yield l) #[] #[]] 98);rwa[World.size_alloc] at this
 have zQ:Below n0 W W0:=by rw[zE];exact((Below.refl _ W).alloc zT _).alloc (by simp;omega) _
 have zS:J 0 W0:=by rw[zE];exact hJ.alloc _ (hJ.alloc _ h0)
 rw[←zE];clear zE;have zX:=(zO.below (hW.mono zN)).below zQ;have zY:=(zH.below (hW.mono zN)).below zQ;refine Fa (gf:=40) (pre:= #[.agg #[.slice a ss.length cap]]) (lb:= #[]) rfl (enters_of func40 (by kernel_rfl) rfl) (xs:=ss) (n0:=n0)
  (by simpa using Ka a cap ss n0 W0 zX (by omega) hl) (by omega) rfl
  (fun k V=>J k V/\Below n0 W0 V/\V.heap[W.heap.size]?=some (.cells #[.slice a ss.length cap,.slice a' tt.length zA] 66)/\V.heap[W.heap.size+1]?=some (.cells #[.func (.yield l) #[] #[]] 98))
  Jx ((hJ.mono (by omega)).and ((CF W0 (by omega) (by omega)).and ((BS _ (by omega)).and (BS _ (by omega))))) (zF.mono (by omega))
  ⟨zS,Below.refl _ _,zV,yA⟩ (fun s=>{tmps:= #[.agg #[.slice a ss.length cap,.slice a' tt.length zA],.func (.yield l) #[] #[],.pointer (some ⟨W.heap.size,0,none⟩),.pointer (some ⟨W.heap.size+1,0,none⟩),.string s,undef,
   .pointer (some ⟨W.heap.size,0,none⟩),.agg #[.slice a ss.length cap],.func (.func 40) #[.agg #[.slice a ss.length cap]] #[],.string s,undef,undef,undef,undef,undef,undef,undef,undef,undef,undef,undef],defers:=[]}) ?assign ?body ?done ?stop
 case assign=>
  intro l2 m2 s V K hK
  gi_wp2
  exact hK
 case body=>
  rintro l2 m2 k s V hs ⟨hj,zL,zI,zC⟩ zZ;obtain⟨fn,tmps,assign,body,hy,hR⟩:=hY k V s (by rw[List.getElem?_append_left (Ut hs).1];exact hs) hj (by omega) (m2 -1);have zU:V.cell? ⟨W.heap.size+1,0,none⟩=some (.func (.yield l) #[] #[]):=by simp[World.cell?,zC]
  gi_wp2
  refine⟨fun h=>by simp[Fence.wide] at h,RoundIn.mono (F:=Fence.wide.inRound l2) hR ?_⟩;rintro e V3 ⟨zB,(⟨rfl,zK,zJ⟩|⟨rfl,zD⟩)⟩
  ·gi_wp2
   exact⟨zB.mono (by omega),⟨zK,zL.trans zJ,zB.same _ _ (by omega) zI rfl,zB.same _ _ (by omega) zC rfl⟩,zJ⟩
  ·gi_wp2
   exact⟨zB.mono (by omega),zD⟩
 case done=>
  rintro D V hD ⟨hj,zL,zI,zC⟩ hK;have yC:V.cell? ⟨W.heap.size,0,none⟩=some (.slice a ss.length cap):=by simp[World.cell?,zI]
  have yD:V.cell? ⟨W.heap.size,1,none⟩=some (.slice a' tt.length zA):=by simp[World.cell?,zI]
  gi_wp2
  have zP:=(Array.getElem?_eq_some_iff.1 hK).1;have yB:=(Array.getElem?_eq_some_iff.1 zC).1;refine Fa (gf:=41) (pre:= #[.agg #[.slice a ss.length cap,.slice a' tt.length zA]]) (lb:= #[]) rfl (enters_of func41 (by kernel_rfl) rfl) (xs:=tt) (n0:=n0)
   (by simpa using Kb (.slice a ss.length cap) a' zA tt n0 V (zY.below zL) (by omega) zW) (by omega) rfl
   (fun k X=>J (ss.length+k) X/\X.heap[W.heap.size+1]?=some (.cells #[.func (.yield l) #[] #[]] 98)/\X.heap[D]?=some (.deferred (some [])))
   (fun _ X=>(∃k,Jx k X)/\X.heap[D]?=some (.deferred (some [])))
   (Bm.and (fun k X X' row hj hg hr=>(hJ.mono (by omega)) (ss.length+k) X X' row hj hg hr) ((BS _ yB).and (BS _ zP))) (Bm.and (fun _ X X' row hj hg hr=>hj.elim fun k hk=>⟨k,(zF.mono (by omega)) k X X' row hk hg hr⟩) (BS _ zP))
   ⟨hj,zC,hK⟩ (fun s=>{tmps:= #[.agg #[.slice a ss.length cap,.slice a' tt.length zA],.func (.yield l) #[] #[],.pointer (some ⟨W.heap.size,0,none⟩),.pointer (some ⟨W.heap.size+1,0,none⟩),undef,.string s,
    .pointer (some ⟨W.heap.size,0,none⟩),.agg #[.slice a ss.length cap],.func (.func 40) #[.agg #[.slice a ss.length cap]] #[],undef,undef,undef,undef,undef,
    .agg #[.slice a ss.length cap,.slice a' tt.length zA],.func (.func 41) #[.agg #[.slice a ss.length cap,.slice a' tt.length zA]] #[],.string s,undef,undef,undef,undef],defers:=[]}) ?assign2 ?body2 ?done2 ?stop2
  case assign2=>
   intro l2 m2 s X K hK
   gi_wp2
   exact hK
  case body2=>
   rintro l2 m2 k s X hs ⟨hj,zC,hK⟩ zZ;obtain⟨fn,tmps,assign,body,hy,hR⟩:=hY (ss.length+k) X s (by rw[List.getElem?_append_right (by omega),Nat.add_sub_cancel_left];exact hs) hj (by omega) (m2 -1);have zU:X.cell? ⟨W.heap.size+1,0,none⟩=some (.func (.yield l) #[] #[]):=by simp[World.cell?,zC]
   gi_wp2
   refine⟨fun h=>by simp[Fence.wide] at h,RoundIn.mono (F:=Fence.wide.inRound l2) hR ?_⟩;rintro e V3 ⟨zB,(⟨rfl,zK,zJ⟩|⟨rfl,zD⟩)⟩
   ·gi_wp2
    exact⟨zB.mono (by omega),⟨zK,zB.same _ _ (by omega) zC rfl,zB.same _ _ (by omega) hK rfl⟩,zJ⟩
   ·gi_wp2
    exact⟨zB.mono (by omega),⟨_,zD⟩,zB.same _ _ (by omega) hK rfl⟩
  case done2=>
   rintro D2 X zR ⟨hj,zC,hK⟩ zG
   gi_wp2
   refine⟨by simp,.inl ⟨_,_,rfl,run_takeDeferred zG,by simp,.inl ⟨_,_,rfl,run_takeDeferred ((World.putObj_heap_other (by omega)).trans hK),?_⟩⟩⟩;refine⟨_,results_none rfl _ _ _,⟨_,rfl⟩,.inl ?_⟩;rw[List.length_append];exact hJ.putObj _ (hJ.putObj _ hj (by omega) zG rfl) (by omega) ((World.putObj_heap_other (by omega)).trans hK) rfl
  case stop2=>
   rintro D2 k X zR ⟨⟨k2,zM⟩,hK⟩ zG
   gi_wp2
   refine⟨by simp,.inl ⟨_,_,rfl,run_takeDeferred zG,by simp,.inl ⟨_,_,rfl,run_takeDeferred ((World.putObj_heap_other (by omega)).trans hK),?_⟩⟩⟩;refine⟨_,results_none rfl _ _ _,⟨_,rfl⟩,.inr ⟨k2,?_⟩⟩;exact zF.putObj _ (zF.putObj _ zM (by omega) zG rfl) (by omega) ((World.putObj_heap_other (by omega)).trans hK) rfl
 case stop=>
  rintro D k V hD zM hK
  gi_wp2
  refine⟨by simp,.inl ⟨_,_,rfl,run_takeDeferred hK,?_⟩⟩;exact⟨_,results_none rfl _ _ _,⟨_,rfl⟩,.inr ⟨k,zF.putObj _ zM (by omega) hK rfl⟩⟩
end
theorem Dr.stable {V V':World} {base d m B:Nat} {O P L:Value} {wd now given births:Int} {ks:List Kd} {ps:List Pd} {ls:List Ld} (h:Dr V base d m O P L wd now given births ks ps ls) (hd:d<B) (hm:m<B) (hb:base<=B) {row:Option Nat} (hg:V.grownBy V' row) (hr:∀r,row=some r->B<=r/\∃o,V.heap[r]?=some o/\AO o=true):Dr V' base d m O P L wd now given births ks ps ls:=by
 refine(DU.turn ⟨h⟩ (CO hg) (fun r hr'=> ?_)).dr;obtain⟨h1,o,h2,h3⟩:=hr r (by simpa using hr');refine⟨by omega,fun hv=> ?_,fun cur fz e=> ?_⟩
 ·unfold vB at hv
  simp only[List.mem_cons,List.mem_append,Option.mem_toList] at hv;rcases hv with e|e|e|e|e
  ·omega
  ·omega
  ·obtain⟨c,hc⟩:=Bu h.ord e
   rw[h2] at hc;cases hc;simp[AO] at h3
  ·obtain⟨c,hc⟩:=Bu h.pin e
   rw[h2] at hc;cases hc;simp[AO] at h3
  ·obtain⟨c,hc⟩:=Bu h.lea e
   rw[h2] at hc;cases hc;simp[AO] at h3
 ·rw[h2] at e
  cases e;simp[AO] at h3
theorem Dr.boxNotin {V:World} {base d m b:Nat} {O P L:Value} {wd now given births:Int} {ks:List Kd} {ps:List Pd} {ls:List Ld} (h:Dr V base d m O P L wd now given births ks ps ls) {o:Obj} (hx:V.heap[b]?=some o) (ho:AO o=true) (hd:b≠d) (hm:b≠m):b∉vB d m O P L/\NS V b:=by
 refine⟨fun hv=> ?_,fun cur fz e=> ?_⟩
 ·unfold vB at hv
  simp only[List.mem_cons,List.mem_append,Option.mem_toList] at hv;rcases hv with e|e|e|e|e
  ·exact hd e
  ·exact hm e
  ·obtain⟨c,hc⟩:=Bu h.ord e
   rw[hx] at hc;cases hc;simp[AO] at ho
  ·obtain⟨c,hc⟩:=Bu h.pin e
   rw[hx] at hc;cases hc;simp[AO] at ho
  ·obtain⟨c,hc⟩:=Bu h.lea e
   rw[hx] at hc;cases hc;simp[AO] at ho
 ·rw[hx] at e
  cases e;simp[AO] at ho
theorem Dr.rebase {V:World} {base base' d m:Nat} {O P L:Value} {wd now given births:Int} {ps:List Pd} {ls:List Ld} (h:Dr V base d m O P L wd now given births [] ps ls) (hb:base'<=base):Dr V base' d m O P L wd now given births [] ps ls:=by
 obtain⟨n,f,h1,h2,h3⟩:=h.map;refine⟨h.box,⟨n,f,h1,h2,fun s hs=> ?_⟩,h.ord.mono hb,h.pin.mono hb,h.lea.mono hb,Uz hb h.bd,Uz hb h.bm,h.ap⟩;rcases h3 s hs with h|⟨u,_,_,hu,_⟩
 ·exact .inl h
 ·simp at hu
theorem Dr.keepsB {V V':World} {base d m B:Nat} {O P L:Value} {wd now given births:Int} {ks:List Kd} {ps:List Pd} {ls:List Ld} (h:Dr V base d m O P L wd now given births ks ps ls) (hd:d<B) (hm:m<B) (ht:Tn (vB d m O P L) V V'):AQ B V V':=by
 refine⟨ht.size,fun b o hb hx ho=>(ht.block b (Array.getElem?_eq_some_iff.1 hx).1 (fun hv=> ?_)).trans hx⟩;unfold vB at hv;simp only[List.mem_cons,List.mem_append,Option.mem_toList] at hv;rcases hv with e|e|e|e|e
 ·omega
 ·omega
 ·obtain⟨c,hc⟩:=Bu h.ord e
  rw[hx] at hc;cases hc;simp[AO] at ho
 ·obtain⟨c,hc⟩:=Bu h.pin e
  rw[hx] at hc;cases hc;simp[AO] at ho
 ·obtain⟨c,hc⟩:=Bu h.lea e
  rw[hx] at hc;cases hc;simp[AO] at ho
theorem AQ.ofG {B:Nat} {W W':World} {row:Option Nat} (hg:W.grownBy W' row) (zA:∀j,row=some j->j<B):AQ B W W':=
 ⟨hg.size,fun b _ hb h _=>(hg.block b (Array.getElem?_eq_some_iff.1 h).1 (fun e=>by have:=zA b e.symm;omega)).trans h⟩
theorem AQ.below {B:Nat} {V V':World} (h:Uq V V'):AQ B V V':=⟨h.size,fun b _ _ hx _=>(h.block b (Array.getElem?_eq_some_iff.1 hx).1).trans hx⟩
section
attribute [local go_sem] Oper.semAt_some
theorem MF {V:World} {z B:Nat} {T U:TypeId} {v:Value} (t4:Boxed V (z+1) T (.pointer none)) (t5:Boxed V (z+1+1) U v) (hB:z+1+1<B) (u:Value):AQ B V ((V.setCell ⟨z+1,0,none⟩ (.pointer none)).setCell ⟨z+1+1,0,none⟩ u)/\Below z V ((V.setCell ⟨z+1,0,none⟩ (.pointer none)).setCell ⟨z+1+1,0,none⟩ u)/\Boxed ((V.setCell ⟨z+1,0,none⟩ (.pointer none)).setCell ⟨z+1+1,0,none⟩ u) (z+1) T (.pointer none)/\Boxed ((V.setCell ⟨z+1,0,none⟩ (.pointer none)).setCell ⟨z+1+1,0,none⟩ u) (z+1+1) U u:=by
 have g1:=grownBy_setCell' V (z+1) (.pointer none);have g2:=grownBy_setCell' (V.setCell ⟨z+1,0,none⟩ (.pointer none)) (z+1+1) u;have zA:=t4.set (.pointer none);have zB:Boxed (V.setCell ⟨z+1,0,none⟩ (.pointer none)) (z+1+1) U v:=(g1.block _ (Array.getElem?_eq_some_iff.1 t5).1 (fun e=>by have:=Option.some.inj e;omega)).trans t5
 refine⟨(AQ.ofG g1 (fun j e=>by cases e;omega)).trans (AQ.ofG g2 (fun j e=>by cases e;omega)),(Below.setCell (Below.setCell (Below.refl _ _) (show z<=z+1 by omega) _) (show z<=z+1+1 by omega) _),(g2.block _ (Array.getElem?_eq_some_iff.1 zA).1 (fun e=>by have:=Option.some.inj e;omega)).trans zA,zB.set u⟩
theorem IS (wd:Int) (gf:Nat) (pre lb:Array Value) (xs:List ByteArray) (w:World) (h1:1<=wd) (h8:wd<=8) (hx:xs.length<=100000) (hs:∀s∈xs,s.size<=1048576) (hE:Env w) (eg:∀args w,(callFunc gf args).run prog w=.ok (.enter gf args) w) (yL:∀W,Uq w W->DD prog gf (fun l=>pre++ #[.func (.yield l) #[] #[]]++lb) xs w.heap.size W):
 Calls prog 19 #[.int .i64 wd,.func (.func gf) pre lb] w fun e w'=>Uq w w'/\((∃n:Nat,Eg wd xs n/\e=.returned (.tuple #[.pointer none,.int .i64 n]))∨(∃r d m O P L base,Cn wd r0 xs r/\e=.returned (.tuple #[.pointer (some ⟨d,0,none⟩),.int .i64 0])/\Dr w' base d m O P L wd r.now r.given r.births r.ks r.ps r.ls/\(w.heap.size<=base/\base+4<=m))):=by
 refine(callsIn_wide (n:=3)).1 ?_;refine callsIn_of_wp_marks func19 rfl trivial ?_ rfl;simp only[ntmps19,List.size_toArray,List.length_cons,List.length_nil,Nat.reduceAdd,Nat.reduceSub,Array.replicate_succ,Array.replicate_zero,List.push_toArray,List.append_toArray,List.nil_append,List.cons_append]
 obtain⟨W0,zG⟩:∃W,W=((w.alloc (.cells #[.int .i64 wd] 3)).alloc (.cells #[.pointer none] 59)).alloc (.cells #[.int .i64 0] 3):=⟨_,rfl⟩;have b0:=(Bn zG).1;have z0:=(Bn zG).2.1;have HD:Hid _:=Lj wd 0 0 0 none none none 0 0 0 [] [] [] W0 ⟨.inl rfl,.inl rfl,.inl rfl⟩ (by simp) (by simp) (by simp) (by simp) h8;have yO:Hid _:=zG
 gi_wp2_with fail
 refine⟨trivial,?_⟩;rw[←yO.o];refine(callsIn_wide.2 HD.o).mono ?_;rintro e w1 ⟨d,m,O,P,L,rfl,zJ,_,_,zM⟩;have yG:=b0.trans (zM.mono b0.size);obtain⟨W2,zL⟩:∃W,W=(w1.alloc (.cells #[.pointer (some ⟨d,0,none⟩)] 59)).alloc (.cells #[.int .i64 0] 3):=⟨_,rfl⟩;have yP:Hid _:=zL;have zC:=(Ba zL).1;have zQ:Below w.heap.size w W2:=yG.trans (zC.mono yG.size);have z2:=(Ba zL).2.1
 have xJ:w.heap.size+3<=w1.heap.size:=by have:=zM.size;omega
 have x2:Boxed W2 w.heap.size 3 (.int .i64 wd):=by
  show W2.heap[w.heap.size]?=_;rw[zC.block _ (by omega),zM.block _ (by omega),zG,Below.heap_alloc _ _ _ (by simp;omega),Below.heap_alloc _ _ _ (by simp)];exact heap_alloc_new w _
 have x4:Boxed W2 (w.heap.size+1) 59 (.pointer none):=by
  show W2.heap[w.heap.size+1]?=_;rw[zC.block _ (by omega),zM.block _ (by omega),zG,Below.heap_alloc _ _ _ (by simp)];have:=heap_alloc_new (w.alloc (.cells #[.int .i64 wd] 3)) (.cells #[.pointer none] 59);rw[World.size_alloc] at this;exact this
 have x5:Boxed W2 (w.heap.size+1+1) 3 (.int .i64 0):=by
  show W2.heap[w.heap.size+1+1]?=_;rw[zC.block _ (by omega),zM.block _ (by omega),zG];have:=heap_alloc_new ((w.alloc (.cells #[.int .i64 wd] 3)).alloc (.cells #[.pointer none] 59)) (.cells #[.int .i64 0] 3);rw[World.size_alloc,World.size_alloc] at this;exact this
 have x6:Boxed W2 w1.heap.size 59 (.pointer (some ⟨d,0,none⟩)):=by
  show W2.heap[w1.heap.size]?=_;rw[zL,Below.heap_alloc _ _ _ (by simp)];exact heap_alloc_new w1 _
 have x7:Boxed W2 (w1.heap.size+1) 3 (.int .i64 0):=by
  show W2.heap[w1.heap.size+1]?=_;rw[zL];have:=heap_alloc_new (w1.alloc (.cells #[.pointer (some ⟨d,0,none⟩)] 59)) (.cells #[.int .i64 0] 3);rw[World.size_alloc] at this;exact this
 have yI:d<w1.heap.size:=zJ.lts d (by simp[vB]);have yJ:m<w1.heap.size:=zJ.lts m (by simp[vB]);have xE:=zJ.bd;have xG:=zJ.bm;have yY:Dr W2 w.heap.size d m O P L wd 0 0 0 [] [] []:=(zJ.below zC).rebase (by omega);have HE:Hid (∀V,Uq w V->Env V):=fun V hV=>hE.below hV;clear HD yO zG zL zJ zM zC yG b0 hE
 gi_wp2_with fail
 rw[←yP.o];clear yP;have zI:∀(b:Nat) (T:TypeId) (v:Value),b<W2.heap.size->Bm W2.heap.size (fun _ V=>Boxed V b T v):=fun b T v hb=>BS (.cells #[v] T) hb;refine Fa (gf:=gf) (pre:=pre) (lb:=lb) rfl eg (xs:=xs) (n0:=w.heap.size) (yL W2 zQ) zQ.size rfl
  (fun k V=>Uq w V/\Boxed V w.heap.size 3 (.int .i64 wd)/\Boxed V (w.heap.size+1) 59 (.pointer none)/\Boxed V (w.heap.size+1+1) 3 (.int .i64 0)/\Boxed V w1.heap.size 59 (.pointer (some ⟨d,0,none⟩))/\Boxed V (w1.heap.size+1) 3 (.int .i64 k)/\∃r O P L,Cn wd r0 (xs.take k) r/\Dr V w.heap.size d m O P L wd r.now r.given r.births r.ks r.ps r.ls)
  (fun _ V=>Uq w V/\∃n:Nat,Eg wd xs n/\Boxed V (w.heap.size+1) 59 (.pointer none)/\Boxed V (w.heap.size+1+1) 3 (.int .i64 n))
  ?stI ?stX ⟨zQ,x2,x4,x5,x6,x7,r0,O,P,L,rfl,yY⟩
  (fun s=>{tmps:= #[.int .i64 wd,.func (.func gf) pre lb,.pointer (some ⟨w.heap.size,0,none⟩),undef,.pointer (some ⟨w.heap.size+1,0,none⟩),.pointer (some ⟨w.heap.size+1+1,0,none⟩),.pointer (some ⟨w1.heap.size,0,none⟩),.pointer (some ⟨w1.heap.size+1,0,none⟩),.string s,undef,undef,.int .i64 wd,.agg #[.int .i64 wd,.int .i64 0,.int .i64 0,.int .i64 0,.slice none 0 0,.slice none 0 0,.slice none 0 0],.pointer (some ⟨d,0,none⟩),.func (.func gf) pre lb,.string s,undef,undef,undef,undef,undef,undef,undef,undef,undef,undef,undef,undef,undef,undef,undef,undef,undef,undef,undef],defers:=[]}) ?assign ?body ?done ?stop
 case stI=>
  refine fun k V V' row hJ hg hr=> ?_;obtain⟨q1,q2,q3,q4,q5,q6,r,O,P,L,q7,q8⟩:=hJ
  exact⟨CF w (Us) zQ.size k V V' row q1 hg hr,zI _ _ _ (by omega) k V V' row q2 hg hr,zI _ _ _ (by omega) k V V' row q3 hg hr,zI _ _ _ (by omega) k V V' row q4 hg hr,zI _ _ _ (by omega) k V V' row q5 hg hr,zI _ _ _ (by omega) k V V' row q6 hg hr,r,O,P,L,q7,q8.stable (B:=W2.heap.size) (by omega) (by omega) (by omega) hg hr⟩
 case stX=>
  refine fun k V V' row hJ hg hr=> ?_;obtain⟨q1,n,q2,q3,q4⟩:=hJ;exact⟨CF w (Us) zQ.size k V V' row q1 hg hr,n,q2,zI _ _ _ (by omega) k V V' row q3 hg hr,zI _ _ _ (by omega) k V V' row q4 hg hr⟩
 case assign=>
  intro l2 m2 s V K hK
  gi_wp2
  exact hK
 case body=>
  rintro l2 m2 k s V zZ ⟨zO,y2,y4,y5,y6,y7,r,O,P,L,zB,Bz⟩ yV;have xC:k<xs.length:=(Ut zZ).1;obtain⟨V1,zK⟩:∃V1,V1=V.setCell ⟨w1.heap.size+1,0,none⟩ (.int .i64 ((k:Int)+1)):=⟨_,rfl⟩;have g1:V.grownBy V1 (some (w1.heap.size+1)):=by rw[zK];exact grownBy_setCell' V _ _
  have xO:V1.heap.size=V.heap.size:=by rw[zK];simp
  have yA:Below w.heap.size w V1:=by rw[zK];exact zO.setCell (p:=⟨w1.heap.size+1,0,none⟩) (by show w.heap.size<=w1.heap.size+1;omega) _
  have u7:Boxed V1 (w1.heap.size+1) 3 (.int .i64 ((k:Int)+1)):=by rw[zK];exact y7.set _
  have ou:∀{b:Nat} {T:TypeId} {v:Value},Boxed V b T v->b≠w1.heap.size+1->Boxed V1 b T v:=fun {b T v} hb hne=>(g1.block b (Array.getElem?_eq_some_iff.1 hb).1 (fun e=>hne (Option.some.inj e))).trans hb;have u2:=ou y2 (by omega);have u4:=ou y4 (by omega);have u5:=ou y5 (by omega);have u6:=ou y6 (by omega)
  have zV:=Bz.stable (B:=w1.heap.size) yI yJ (by omega) g1 (fun q e=>by cases e;exact⟨by omega,_,y7,by simp[AO]⟩);have HR:Hid _:=Ni s wd V1 (hs s (Ux zZ)) (HE.o V1 yA);have c7:=y7.cell;have f7:=y7.frozen;have c2:=y2.cell;have xI:¬w.heap.size=w1.heap.size+1:=by omega
  have yN:Hid _:=zK;clear zK
  gi_wp2_with fail
  rw[←yN.o];clear yN;refine⟨trivial,fun h=>by simp[Fence.wide] at h,?_⟩;refine(callsIn_wide.2 HR.o).mono ?_;rintro e V2 ⟨v,rfl,yD,zC⟩;obtain⟨ra,rc,rfl⟩:=AK yD;obtain⟨V3,yC⟩:∃V3,V3=V2.alloc (.cells #[.int .i64 (Ay s wd).k,.string (Ay s wd).sum,.string (Ay s wd).name,.int .i64 (Ay s wd).n,.string (Ay s wd).t,.slice ra (Ay s wd).ss.length rc] 92):=⟨_,rfl⟩;have zU:=(AC yC).1
  have zN:Below V1.heap.size V1 V3:=zC.trans (zU.mono zC.size);have zP:Below w.heap.size w V3:=yA.trans (zN.mono yA.size);have o3:∀{b:Nat} {T:TypeId} {v:Value},Boxed V1 b T v->Boxed V3 b T v:=fun {b T v} hb=>(zN.block b (Array.getElem?_eq_some_iff.1 hb).1).trans hb;have t2:=o3 u2;have t4:=o3 u4;have t5:=o3 u5;have t6:=o3 u6;have t7:=o3 u7;have zA:=zV.below zN;have e3:=(AC yC).2.2
  have yM:AQ W2.heap.size V V3:=(AQ.ofG g1 (fun j e=>by cases e;omega)).trans (AQ.below zN);have yF:Below w.heap.size V V3:=(show Below w.heap.size V V1 from⟨g1.os,g1.tape,g1.output,g1.size,fun b hb=>g1.block b (by have:=zO.size;omega) (fun e=>by have:=Option.some.inj e;omega)⟩).trans (zN.mono yA.size);have yE:Hid _:=yC;have xN:w.heap.size+3<=V2.heap.size:=by have h1:=zC.size;have h2:=yV;omega
  have xM:w1.heap.size+1<V2.heap.size:=by have h1:=zC.size;have h2:=yV;omega
  clear yC;cases hok:(Ay s wd).ok with
  |false=>
   have zH:Eg wd xs (k+1):=⟨k,r,s,rfl,zZ,zB,.inl hok⟩;have yX:=t7.cell;have f5:=t5.frozen;have f4:=t4.frozen;have d4:=t4.cell;have d5:=t5.cell;clear c7 c2 f7 e3 HR yD;have HS:Hid _:=MF (B:=W2.heap.size) t4 t5 (by omega) (.int .i64 ((k:Int)+1))
   gi_wp2_with fail
   rw[←yE.o];refine⟨trivial,?_⟩
   gi_wp2_with fail
   gi_region
   all_goals gi_wp2_with fail
   all_goals exact⟨yM.trans ⟨HS.o.1.size,HS.o.1.same⟩,zP.trans HS.o.2.1.drew,k+1,zH,HS.o.2.2.1,HS.o.2.2.2⟩
  |true=>
   have yT:=(GJ hok).1;have zT:Sf wd r.now r.given r.births r.ks r.ps r.ls (Ay s wd).k (Ay s wd).n (Ay s wd).t (Ay s wd).ss:=EH.aok (zB.ok (Fm h1 h8)) yT (by have:=PK yT;unfold maxLen;omega);have yK:=Ag yD zU;have zE:=zV.lts;have zY:CA V3 w.heap.size (vB d m O P L) ra (Ay s wd).ss:=by
    rcases yK.2 with⟨_,h0⟩|⟨g,cap,yQ,hv,xF,hg,_⟩
    ·exact .inl (List.eq_nil_of_length_eq_zero h0)
    ·cases hv
     refine .inr ⟨g,0,rfl,(Array.getElem?_eq_some_iff.1 hg).1,fun hin=>by have:=zE g hin;omega,.inr ⟨by omega,yQ,hg⟩,fun i x hx=> ?_⟩;rcases Ad.own yK with h|⟨b',xD,e',_,hc⟩
     ·rw[h] at hx
      simp at hx
     ·cases e'
      exact hc i x hx
   have HA:Hid _:=Hi d (vB d m O P L) (Ay s wd).k (Ay s wd).sum (Ay s wd).name (Ay s wd).t (Ay s wd).n ra (Ay s wd).ss.length rc (fun c a b=>Hk wd r.now r.given r.births r.ks r.ps r.ls (Ay s wd).k (Ay s wd).sum (Ay s wd).name (Ay s wd).n (Ay s wd).t (Ay s wd).ss c a b) (fun sm le X=>∃r',Eb wd r.now r.given r.births r.ks r.ps r.ls (Ay s wd).k (Ay s wd).sum (Ay s wd).name (Ay s wd).n (Ay s wd).t (Ay s wd).ss r'/\r'.sm=sm/\r'.le=le/\Gc w.heap.size d m wd r' X) V3 zA.lts (fun sm le X X' R yQ q1 q2 q3 q4=>by
    obtain⟨r',g1,g2,g3,g4⟩:=q1;have xK:=zN.size;exact⟨r',g1,g2,g3,g4.stays q2 (by omega) (by omega) q4⟩) (fun X hX=>IN w.heap.size d m O P L wd r.now r.given r.births r.ks r.ps r.ls (Ay s wd).k (Ay s wd).sum (Ay s wd).name (Ay s wd).n (Ay s wd).t (Ay s wd).ss ra rc X (DU.below ⟨zA⟩ hX) zT (zY.move (U:=[]) (Tn.of hX) (by simp) (fun b hb=> .inl hb)))
   have d6:V2.cell? ⟨w1.heap.size,0,none⟩=some (.pointer (some ⟨d,0,none⟩)):=(zC.cell (p:=⟨w1.heap.size,0,none⟩) (by show w1.heap.size<_;omega)).trans u6.cell;have xL:w1.heap.size<V2.heap.size:=by omega
   have yW:Hid (xs.take (k+1)=xs.take k++[s]):=by
    have hq:=Uv xC;rw[(Ut zZ).2] at hq;exact hq
   clear c7 c2 f7 HR yD yK zY zT zE e3
   gi_wp2_with fail
   rw[←yE.o];clear yE;refine⟨trivial,fun h=>by simp[Fence.wide] at h,?_⟩;refine(callsIn_wide.2 HA.o).mono ?_;intro e V4 yZ;obtain⟨c,a',b',zX,rfl,ht⟩|⟨sm,le,rfl,⟨r',hy,_,_,⟨O',P',L',yR⟩⟩,ht⟩:=yZ
   ·have xH:(c !=0)=true:=by have:=zX.code;simp;omega
    have zH:Eg wd xs (k+1):=⟨k,r,s,rfl,zZ,zB,.inr ⟨c,a',b',zX⟩⟩;have zD:=zA.keepsB (B:=w1.heap.size) yI yJ ht;have zW:Below w.heap.size V3 V4:=ht.below zP.size (fun b hin=>by
     have:=zA;unfold vB at hin;simp only[List.mem_cons,List.mem_append,Option.mem_toList] at hin;rcases hin with h|h|h|h|h
     ·rw[h];exact this.bd
     ·rw[h];exact this.bm
     ·exact(Af this.ord h).1
     ·exact(Af this.pin h).1
     ·exact(Af this.lea h).1)
    have s7:Boxed V4 (w1.heap.size+1) 3 (.int .i64 ((k:Int)+1)):=zD.same _ _ (by omega) t7 (by simp[AO]);have s4:Boxed V4 (w.heap.size+1) 59 (.pointer none):=(ht.block _ (Array.getElem?_eq_some_iff.1 t4).1 (zA.boxNotin t4 (by simp[AO]) (by omega) (by omega)).1).trans t4
    have s5:Boxed V4 (w.heap.size+1+1) 3 (.int .i64 0):=(ht.block _ (Array.getElem?_eq_some_iff.1 t5).1 (zA.boxNotin t5 (by simp[AO]) (by omega) (by omega)).1).trans t5;have HS:Hid _:=MF (B:=W2.heap.size) s4 s5 (by omega) (.int .i64 ((k:Int)+1));have yX:=s7.cell;have f5:=s5.frozen;have f4:=s4.frozen;have d4:=s4.cell;have d5:=s5.cell
    have K4:Hid _:=And.intro (zD.mono (B':=W2.heap.size) (by omega)) zW;clear zD zW ht zX d6 HA;have xB:∀X:World,(Instr.field 96 (.agg #[.int .i64 c,.int .i64 0,.int .i64 0,.int .i64 0,.int .i64 0,.slice none 0 0,.slice none 0 0,.slice none 0 0,.string ⟨#[]⟩,.int .i64 0,.string a',.string b']) 0).run prog X=.ok (.int .i64 c) X:=fun _=>by kernel_rfl
    have yU:(Li c a' b').toArray= #[.int .i64 c,.int .i64 0,.int .i64 0,.int .i64 0,.int .i64 0,.slice none 0 0,.slice none 0 0,.slice none 0 0,.string ⟨#[]⟩,.int .i64 0,.string a',.string b']:=rfl;rw[yU];clear yU
    gi_wp2_with fail
    gi_region
    all_goals gi_wp2_with fail
    all_goals exact⟨(yM.trans K4.o.1).trans ⟨HS.o.1.size,HS.o.1.same⟩,(zP.trans K4.o.2).trans HS.o.2.1.drew,k+1,zH,HS.o.2.2.1,HS.o.2.2.2⟩
   ·have zD:=zA.keepsB (B:=w1.heap.size) yI yJ ht
    have zW:Below w.heap.size V3 V4:=ht.below zP.size (fun b hin=>by
     have:=zA;unfold vB at hin;simp only[List.mem_cons,List.mem_append,Option.mem_toList] at hin;rcases hin with h|h|h|h|h
     ·rw[h];exact this.bd
     ·rw[h];exact this.bm
     ·exact(Af this.ord h).1
     ·exact(Af this.pin h).1
     ·exact(Af this.lea h).1)
    have s7:Boxed V4 (w1.heap.size+1) 3 (.int .i64 ((k:Int)+1)):=zD.same _ _ (by omega) t7 (by simp[AO]);have s6:Boxed V4 w1.heap.size 59 (.pointer (some ⟨d,0,none⟩)):=zD.same _ _ (by omega) t6 (by simp[AO]);have s2:Boxed V4 w.heap.size 3 (.int .i64 wd):=(ht.block _ (Array.getElem?_eq_some_iff.1 t2).1 (zA.boxNotin t2 (by simp[AO]) (by omega) (by omega)).1).trans t2
    have s4:Boxed V4 (w.heap.size+1) 59 (.pointer none):=(ht.block _ (Array.getElem?_eq_some_iff.1 t4).1 (zA.boxNotin t4 (by simp[AO]) (by omega) (by omega)).1).trans t4;have s5:Boxed V4 (w.heap.size+1+1) 3 (.int .i64 0):=(ht.block _ (Array.getElem?_eq_some_iff.1 t5).1 (zA.boxNotin t5 (by simp[AO]) (by omega) (by omega)).1).trans t5
    have zF:Cn wd r0 (xs.take (k+1)) r':=by rw[yW.o];exact zB.snoc ⟨hok,hy⟩
    have K4:Hid _:=And.intro (zD.mono (B':=W2.heap.size) (by omega)) zW;have HF:Hid _:=And.intro s7 (And.intro s6 (And.intro s2 (And.intro s4 (And.intro s5 (And.intro zF yR)))));clear zD zW ht d6 HA s7 s6 s2 s4 s5 zF yR hy
    have xB:∀X:World,(Instr.field 96 (.agg #[.int .i64 0,.int .i64 0,.int .i64 0,.int .i64 0,.int .i64 0,.slice none 0 0,.slice none 0 0,.slice none 0 0,.string sm,.int .i64 le,.string ⟨#[]⟩,.string ⟨#[]⟩]) 0).run prog X=.ok (.int .i64 0) X:=fun _=>by kernel_rfl
    gi_wp2_with fail
    exact⟨yM.trans K4.o.1,⟨zP.trans K4.o.2,HF.o.2.2.1,HF.o.2.2.2.1,HF.o.2.2.2.2.1,HF.o.2.1,HF.o.1,r',O',P',L',HF.o.2.2.2.2.2.1,HF.o.2.2.2.2.2.2⟩,yF.trans K4.o.2⟩
 case done=>
  rintro D V hD ⟨zO,y2,y4,y5,y6,y7,r,O,P,L,zB,Bz⟩ hK;rw[Uw (Us)] at zB;have c6:=y6.cell;have f4:=y4.frozen;have d4:=y4.cell;have f5:=y5.frozen;have d5:=y5.cell;have g1:=grownBy_setCell' V (w.heap.size+1) (.pointer (some ⟨d,0,none⟩));have g2:=grownBy_setCell' (V.setCell ⟨w.heap.size+1,0,none⟩ (.pointer (some ⟨d,0,none⟩))) (w.heap.size+1+1) (.int .i64 0)
  obtain⟨R1,zR⟩:∃R,R=V.setCell ⟨w.heap.size+1,0,none⟩ (.pointer (some ⟨d,0,none⟩)):=⟨_,rfl⟩;obtain⟨R2,zS⟩:∃R,R=R1.setCell ⟨w.heap.size+1+1,0,none⟩ (.int .i64 0):=⟨_,rfl⟩;rw[←zR] at g1 g2;rw[←zS] at g2;have p4:Boxed R1 (w.heap.size+1) 59 (.pointer (some ⟨d,0,none⟩)):=by rw[zR];exact y4.set _
  have p5:Boxed R1 (w.heap.size+1+1) 3 (.int .i64 0):=(g1.block _ (Array.getElem?_eq_some_iff.1 y5).1 (fun e=>by have:=Option.some.inj e;omega)).trans y5;have q5:Boxed R2 (w.heap.size+1+1) 3 (.int .i64 0):=by rw[zS];exact p5.set _
  have q4:Boxed R2 (w.heap.size+1) 59 (.pointer (some ⟨d,0,none⟩)):=(g2.block _ (Array.getElem?_eq_some_iff.1 p4).1 (fun e=>by have:=Option.some.inj e;omega)).trans p4
  have yB:R2.heap[D]?=some (.deferred (some [])):=(g2.block _ (by have:=g1.size;have:=(Array.getElem?_eq_some_iff.1 hK).1;omega) (fun e=>by have:=Option.some.inj e;omega)).trans ((g1.block _ (Array.getElem?_eq_some_iff.1 hK).1 (fun e=>by have:=Option.some.inj e;omega)).trans hK);have yH:=DU.turn ⟨Bz⟩ (CO g1) (fun b hb=>by
   obtain rfl:b=w.heap.size+1:=by simpa using hb
   exact⟨by omega,Bz.boxNotin y4 (by simp[AO]) (by omega) (by omega)⟩)
  have yS:=DU.turn yH (CO g2) (fun b hb=>by
   obtain rfl:b=w.heap.size+1+1:=by simpa using hb
   exact⟨by omega,yH.dr.boxNotin p5 (by simp[AO]) (by omega) (by omega)⟩)
  have xA:=yS.dr.stable (B:=W2.heap.size) (by omega) (by omega) (by omega) (grownBy_putObj' R2 D (.deferred none)) (fun r e=>by cases e;exact⟨hD,_,yB,rfl⟩);have e4:=cell_kept q4.cell (grownBy_putObj' _ D (.deferred none)) (fun r e=>by cases e;exact⟨_,yB,rfl⟩);have e5:=cell_kept q5.cell (grownBy_putObj' _ D (.deferred none)) (fun r e=>by cases e;exact⟨_,yB,rfl⟩)
  have bR:Below w.heap.size w R2:=by rw[zS,zR];exact(zO.setCell (p:=⟨w.heap.size+1,0,none⟩) (by show _<=_+1;omega) _).setCell (p:=⟨w.heap.size+1+1,0,none⟩) (by show _<=_+1+1;omega) _
  have HR:Hid _:=And.intro zR zS;clear g1 g2 zR zS p4 p5 q4 q5 yH yS Bz
  gi_wp2_with fail
  rw[←HR.o.1,←HR.o.2];refine⟨by simp,.inl ⟨_,_,rfl,run_takeDeferred yB,?_⟩⟩;refine⟨.tuple #[.pointer (some ⟨d,0,none⟩),.int .i64 0],by simp[results,results19,go_sem,e4,e5],?_,.inr ⟨r,d,m,O,P,L,w.heap.size,zB,rfl,xA,Us,by omega⟩⟩;exact bR.trans ⟨rfl,rfl,rfl,by simp,fun i hi=>World.putObj_heap_other (by omega)⟩
 case stop=>
  rintro D k V hD ⟨zO,n,zX,y4,y5⟩ hK;have d4:=cell_kept y4.cell (grownBy_putObj' _ D (.deferred none)) (fun r e=>by cases e;exact⟨_,hK,rfl⟩);have d5:=cell_kept y5.cell (grownBy_putObj' _ D (.deferred none)) (fun r e=>by cases e;exact⟨_,hK,rfl⟩)
  gi_wp2
  refine⟨by simp,.inl ⟨_,_,rfl,run_takeDeferred hK,?_⟩⟩;refine⟨.tuple #[.pointer none,.int .i64 n],by simp[results,results19,go_sem,d4,d5],?_,.inl ⟨n,zX,rfl⟩⟩;exact zO.trans ⟨rfl,rfl,rfl,by simp,fun i hi=>World.putObj_heap_other (by omega)⟩
end
end Go.Proofs.YtflhhhnlhlaehaaGreatDoor
