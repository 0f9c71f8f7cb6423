import Derived.Test.YtflhhhnlhlaehaaGreatDoorC12
import Derived.Laws.IdiomCopy
import Derived.Laws.NewBlocks
import Derived.Laws.AppendOwn
import Derived.Lib.AppendZerosOnto
import Derived.Lib.Overlaps
import Derived.Lib.Walk
set_option maxRecDepth 100000
set_option maxHeartbeats 16000000
namespace Go.Proofs.YtflhhhnlhlaehaaGreatDoor
open Go.ChangeShapes Go.WideShapes Go.ChangeAt Go.RowKit _root_.Go.Proofs.Tryz
theorem Jm (d:Nat) (s nm tx:ByteArray) (num:Int) (ra:Option Addr) (rn rc:Nat) (c:Int) (a b:ByteArray) (w:World) (h:∀X,Uq w X->Calls prog 90 #[.pointer (some ⟨d,0,none⟩),.string nm] X fun e w'=>e=.panicked [{v:=refV c a b,recovered:=false}]/\Uq X w'):
 Calls prog 62 #[.pointer (some ⟨d,0,none⟩),.agg #[.int .i64 3,.string s,.string nm,.int .i64 num,.string tx,.slice ra rn rc]] w fun e w'=>e=.panicked [{v:=refV c a b,recovered:=false}]/\Uq w w':=by
 obtain⟨W,hW⟩:∃W,W=((w.alloc (.cells #[.int .i64 3,.string s,.string nm,.int .i64 num,.string tx,.slice ra rn rc] 92)).alloc (.cells #[.int .i64 0,.int .i64 0,.int .i64 0,.int .i64 0,.int .i64 0,.slice none 0 0,.slice none 0 0,.slice none 0 0,.string ⟨#[]⟩,.int .i64 0,.string ⟨#[]⟩,.string ⟨#[]⟩] 96)).alloc (.cells #[.int .i64 0,.int .i64 0,.int .i64 0,.int .i64 0,.int .i64 0,.slice none 0 0,.slice none 0 0,.slice none 0 0,.string ⟨#[]⟩,.int .i64 0,.string ⟨#[]⟩,.string ⟨#[]⟩] 96):=⟨_,rfl⟩
 have hB:=(Bn hW).1;have xE:=(Bn hW).2.2.1;have HC:Hid _:=h W hB;have HW:Hid _:=hW;obtain⟨e0,e1,e2,e3⟩:=Aa.c4 xE 0 1 2 3;clear hW xE h;go_enter func62,ntmps62;go_upto_region 2 with fail;rw[←HW.o];clear HW;go_wp2_with fail;refine Calls.mono HC.o ?_;rintro e w1 ⟨rfl,zA⟩;exact⟨rfl,rfl,hB.trans (zA.mono hB.size)⟩
theorem FB (d:Nat) (s nm tx:ByteArray) (num:Int) (ra:Option Addr) (rn rc:Nat) (c:Int) (a b:ByteArray) (w:World) (h:∀X,Uq w X->Calls prog 88 #[.pointer (some ⟨d,0,none⟩),.string s,.int .i64 num] X fun e w'=>e=.panicked [{v:=refV c a b,recovered:=false}]/\Uq X w'):
 Calls prog 62 #[.pointer (some ⟨d,0,none⟩),.agg #[.int .i64 4,.string s,.string nm,.int .i64 num,.string tx,.slice ra rn rc]] w fun e w'=>e=.panicked [{v:=refV c a b,recovered:=false}]/\Uq w w':=by
 obtain⟨W,hW⟩:∃W,W=((w.alloc (.cells #[.int .i64 4,.string s,.string nm,.int .i64 num,.string tx,.slice ra rn rc] 92)).alloc (.cells #[.int .i64 0,.int .i64 0,.int .i64 0,.int .i64 0,.int .i64 0,.slice none 0 0,.slice none 0 0,.slice none 0 0,.string ⟨#[]⟩,.int .i64 0,.string ⟨#[]⟩,.string ⟨#[]⟩] 96)).alloc (.cells #[.int .i64 0,.int .i64 0,.int .i64 0,.int .i64 0,.int .i64 0,.slice none 0 0,.slice none 0 0,.slice none 0 0,.string ⟨#[]⟩,.int .i64 0,.string ⟨#[]⟩,.string ⟨#[]⟩] 96):=⟨_,rfl⟩
 have hB:=(Bn hW).1;have xE:=(Bn hW).2.2.1;have HC:Hid _:=h W hB;have HW:Hid _:=hW;obtain⟨e0,e1,e2,e3⟩:=Aa.c4 xE 0 1 2 3;clear hW xE h;go_enter func62,ntmps62;go_upto_region 2 with fail;rw[←HW.o];clear HW;go_wp2_with fail;refine Calls.mono HC.o ?_;rintro e w1 ⟨rfl,zA⟩;exact⟨rfl,rfl,hB.trans (zA.mono hB.size)⟩
theorem Kp (d:Nat) (s nm tx:ByteArray) (num:Int) (ra:Option Addr) (rn rc:Nat) (c:Int) (a b:ByteArray) (w:World) (h:∀X,Uq w X->Calls prog 91 #[.pointer (some ⟨d,0,none⟩),.int .i64 num] X fun e w'=>e=.panicked [{v:=refV c a b,recovered:=false}]/\Uq X w'):
 Calls prog 62 #[.pointer (some ⟨d,0,none⟩),.agg #[.int .i64 5,.string s,.string nm,.int .i64 num,.string tx,.slice ra rn rc]] w fun e w'=>e=.panicked [{v:=refV c a b,recovered:=false}]/\Uq w w':=by
 obtain⟨W,hW⟩:∃W,W=((w.alloc (.cells #[.int .i64 5,.string s,.string nm,.int .i64 num,.string tx,.slice ra rn rc] 92)).alloc (.cells #[.int .i64 0,.int .i64 0,.int .i64 0,.int .i64 0,.int .i64 0,.slice none 0 0,.slice none 0 0,.slice none 0 0,.string ⟨#[]⟩,.int .i64 0,.string ⟨#[]⟩,.string ⟨#[]⟩] 96)).alloc (.cells #[.int .i64 0,.int .i64 0,.int .i64 0,.int .i64 0,.int .i64 0,.slice none 0 0,.slice none 0 0,.slice none 0 0,.string ⟨#[]⟩,.int .i64 0,.string ⟨#[]⟩,.string ⟨#[]⟩] 96):=⟨_,rfl⟩
 have hB:=(Bn hW).1;have xE:=(Bn hW).2.2.1;have HC:Hid _:=h W hB;have HW:Hid _:=hW;obtain⟨e0,e1,e2,e3⟩:=Aa.c4 xE 0 1 2 3;clear hW xE h;go_enter func62,ntmps62;go_upto_region 2 with fail;rw[←HW.o];clear HW;go_wp2_with fail;refine Calls.mono HC.o ?_;rintro e w1 ⟨rfl,zA⟩;exact⟨rfl,rfl,hB.trans (zA.mono hB.size)⟩
theorem Kq (d:Nat) (s nm tx:ByteArray) (num:Int) (ra:Option Addr) (rn rc:Nat) (c:Int) (a b:ByteArray) (w:World) (h:∀X,Uq w X->Calls prog 92 #[.pointer (some ⟨d,0,none⟩),.int .i64 num] X fun e w'=>e=.panicked [{v:=refV c a b,recovered:=false}]/\Uq X w'):
 Calls prog 62 #[.pointer (some ⟨d,0,none⟩),.agg #[.int .i64 6,.string s,.string nm,.int .i64 num,.string tx,.slice ra rn rc]] w fun e w'=>e=.panicked [{v:=refV c a b,recovered:=false}]/\Uq w w':=by
 obtain⟨W,hW⟩:∃W,W=((w.alloc (.cells #[.int .i64 6,.string s,.string nm,.int .i64 num,.string tx,.slice ra rn rc] 92)).alloc (.cells #[.int .i64 0,.int .i64 0,.int .i64 0,.int .i64 0,.int .i64 0,.slice none 0 0,.slice none 0 0,.slice none 0 0,.string ⟨#[]⟩,.int .i64 0,.string ⟨#[]⟩,.string ⟨#[]⟩] 96)).alloc (.cells #[.int .i64 0,.int .i64 0,.int .i64 0,.int .i64 0,.int .i64 0,.slice none 0 0,.slice none 0 0,.slice none 0 0,.string ⟨#[]⟩,.int .i64 0,.string ⟨#[]⟩,.string ⟨#[]⟩] 96):=⟨_,rfl⟩
 have hB:=(Bn hW).1;have xE:=(Bn hW).2.2.1;have HC:Hid _:=h W hB;have HW:Hid _:=hW;obtain⟨e0,e1,e2,e3⟩:=Aa.c4 xE 0 1 2 3;clear hW xE h;go_enter func62,ntmps62;go_upto_region 2 with fail;rw[←HW.o];clear HW;go_wp2_with fail;refine Calls.mono HC.o ?_;rintro e w1 ⟨rfl,zA⟩;exact⟨rfl,rfl,hB.trans (zA.mono hB.size)⟩
theorem GA (d:Nat) (s nm tx:ByteArray) (num:Int) (ra:Option Addr) (rn rc:Nat) (c:Int) (a b:ByteArray) (w:World) (h:∀X,Uq w X->Calls prog 89 #[.pointer (some ⟨d,0,none⟩),.string nm,.string s] X fun e w'=>e=.panicked [{v:=refV c a b,recovered:=false}]/\Uq X w'):
 Calls prog 62 #[.pointer (some ⟨d,0,none⟩),.agg #[.int .i64 2,.string s,.string nm,.int .i64 num,.string tx,.slice ra rn rc]] w fun e w'=>e=.panicked [{v:=refV c a b,recovered:=false}]/\Uq w w':=by
 obtain⟨W,hW⟩:∃W,W=((w.alloc (.cells #[.int .i64 2,.string s,.string nm,.int .i64 num,.string tx,.slice ra rn rc] 92)).alloc (.cells #[.int .i64 0,.int .i64 0,.int .i64 0,.int .i64 0,.int .i64 0,.slice none 0 0,.slice none 0 0,.slice none 0 0,.string ⟨#[]⟩,.int .i64 0,.string ⟨#[]⟩,.string ⟨#[]⟩] 96)).alloc (.cells #[.int .i64 0,.int .i64 0,.int .i64 0,.int .i64 0,.int .i64 0,.slice none 0 0,.slice none 0 0,.slice none 0 0,.string ⟨#[]⟩,.int .i64 0,.string ⟨#[]⟩,.string ⟨#[]⟩] 96):=⟨_,rfl⟩
 have hB:=(Bn hW).1;have xE:=(Bn hW).2.2.1;have HC:Hid _:=h W hB;have HW:Hid _:=hW;obtain⟨e0,e1,e2,e3⟩:=Aa.c4 xE 0 1 2 3;clear hW xE h;go_enter func62,ntmps62;go_upto_region 2 with fail;rw[←HW.o];clear HW;go_wp2_with fail;refine Calls.mono HC.o ?_;rintro e w1 ⟨rfl,zA⟩;exact⟨rfl,rfl,hB.trans (zA.mono hB.size)⟩
theorem Hi (d:Nat) (V:List Nat) (kd:Int) (s nm tx:ByteArray) (num:Int) (ra:Option Addr) (rn rc:Nat) (Rn:Int->ByteArray->ByteArray->Prop) (Ry:ByteArray->Int->World->Prop) (w:World) (hV:∀b∈V,b<w.heap.size)
 (zL:∀sm le X X' R cur,Ry sm le X->X.heap[R]?=some (.cells cur 96)->w.heap.size<=R->Tn [R] X X'->Ry sm le X')
 (h:∀X,Uq w X->Calls prog 62 #[.pointer (some ⟨d,0,none⟩),.agg #[.int .i64 kd,.string s,.string nm,.int .i64 num,.string tx,.slice ra rn rc]] X fun e w'=>(∃c a b,Rn c a b/\e=.panicked [{v:=refV c a b,recovered:=false}]/\Tn V X w')∨(∃sm le,e=.returned (.agg #[.int .i64 0,.int .i64 0,.int .i64 0,.int .i64 0,.int .i64 0,.slice none 0 0,.slice none 0 0,.slice none 0 0,.string sm,.int .i64 le,.string ⟨#[]⟩,.string ⟨#[]⟩])/\Ry sm le w'/\Tn V X w')):
 Calls prog 39 #[.pointer (some ⟨d,0,none⟩),.agg #[.int .i64 kd,.string s,.string nm,.int .i64 num,.string tx,.slice ra rn rc]] w fun e w'=>(∃c a b,Rn c a b/\e=.returned (.agg (Li c a b).toArray)/\Tn V w w')∨(∃sm le,e=.returned (.agg #[.int .i64 0,.int .i64 0,.int .i64 0,.int .i64 0,.int .i64 0,.slice none 0 0,.slice none 0 0,.slice none 0 0,.string sm,.int .i64 le,.string ⟨#[]⟩,.string ⟨#[]⟩])/\Ry sm le w'/\Tn V w w'):=by
 suffices hs:∀Q:Ending->World->Prop,(∀c a b zA,Rn c a b->Tn V w zA->Q (.returned (.agg (Li c a b).toArray)) zA)->(∀sm le zA,Ry sm le zA->Tn V w zA->Q (.returned (.agg #[.int .i64 0,.int .i64 0,.int .i64 0,.int .i64 0,.int .i64 0,.slice none 0 0,.slice none 0 0,.slice none 0 0,.string sm,.int .i64 le,.string ⟨#[]⟩,.string ⟨#[]⟩])) zA)->Calls prog 39 #[.pointer (some ⟨d,0,none⟩),.agg #[.int .i64 kd,.string s,.string nm,.int .i64 num,.string tx,.slice ra rn rc]] w Q from
  hs _ (fun c a b zA h1 h2=> .inl ⟨c,a,b,h1,rfl,h2⟩) (fun sm le zA h1 h2=> .inr ⟨sm,le,rfl,h1,h2⟩)
 intro Q zG zH;have zN:Hid _:=zG;have zO:Hid _:=zH;clear zG zH;have zS:∀(fn:Fn) (first cap:Array Value) (w:World),(Instr.makeFunc fn first cap).run prog w=.ok (.func fn first cap) w:=fun _ _ _ _=>rfl
 obtain⟨W,hW⟩:∃W,W=(w.alloc (.cells #[.int .i64 kd,.string s,.string nm,.int .i64 num,.string tx,.slice ra rn rc] 92)).alloc (.cells #[.int .i64 0,.int .i64 0,.int .i64 0,.int .i64 0,.int .i64 0,.slice none 0 0,.slice none 0 0,.slice none 0 0,.string ⟨#[]⟩,.int .i64 0,.string ⟨#[]⟩,.string ⟨#[]⟩] 96):=⟨_,rfl⟩;have hB:=(Ba hW).1;have zM:=(Ba hW).2.1;have xE:=(Ba hW).2.2.1
 have zR:Aa W (w.heap.size+1) AJ:=by
  have h1:=Aa.new (w.alloc (.cells #[.int .i64 kd,.string s,.string nm,.int .i64 num,.string tx,.slice ra rn rc] 92)) AJ 96;rw[World.size_alloc] at h1;rw[hW];exact h1
 have zJ:W.heap[w.heap.size+1]?=some (.cells #[.int .i64 0,.int .i64 0,.int .i64 0,.int .i64 0,.int .i64 0,.slice none 0 0,.slice none 0 0,.slice none 0 0,.string ⟨#[]⟩,.int .i64 0,.string ⟨#[]⟩,.string ⟨#[]⟩] 96):=by
  have:=heap_alloc_new (w.alloc (.cells #[.int .i64 kd,.string s,.string nm,.int .i64 num,.string tx,.slice ra rn rc] 92)) (.cells #[.int .i64 0,.int .i64 0,.int .i64 0,.int .i64 0,.int .i64 0,.slice none 0 0,.slice none 0 0,.slice none 0 0,.string ⟨#[]⟩,.int .i64 0,.string ⟨#[]⟩,.string ⟨#[]⟩] 96);rw[World.size_alloc] at this;rw[hW];exact this
 obtain⟨e0,e1,e2,e3,e4,e5⟩:=Aa.c6 xE 0 1 2 3 4 5;have HC:Hid _:=h W hB;have HW:Hid _:=hW;have HZ:Hid (Aa W (w.heap.size+1) AJ/\W.heap[w.heap.size+1]?=some (.cells #[.int .i64 0,.int .i64 0,.int .i64 0,.int .i64 0,.int .i64 0,.slice none 0 0,.slice none 0 0,.slice none 0 0,.string ⟨#[]⟩,.int .i64 0,.string ⟨#[]⟩,.string ⟨#[]⟩] 96)/\Uq w W/\W.heap.size=w.heap.size+2):=⟨zR,zJ,hB,zM⟩;have HV:Hid _:=hV
 have zP:Hid _:=zL;clear hW zR zM xE h zJ hB hV zL
 go_enter_defers func39,ntmps39
 go_upto_region 1 with fail;rw[←HW.o];clear HW;go_wp2_with fail;refine Calls.mono HC.o ?_;intro e w1 zQ;have zz:=HZ.o.2.2.2;have zC:w.heap.size+1∉V:=fun h=>by have:=HV.o _ h;omega
 obtain⟨c,a,b,zK,rfl,zB⟩|⟨sm,le,rfl,hy,zB⟩:=zQ
 ·have zD:=Aa.same HZ.o.1 (zB.block _ (by omega) zC)
  clear e0 e1 e2 e3 e4 e5 HC;refine leaves_cons (f:=61) (args:= #[.pointer (some ⟨w.heap.size+1,0,none⟩)]) (by simp) (by simp[go_sem]) ?_;refine(Mb (w.heap.size+1) c a b w1 zD).mono ?_;rintro e u' zA ⟨rfl,rfl,hc,ht⟩;have y0:=(hc 0 _ rfl).1;have y1:=(hc 1 _ rfl).1;have y2:=(hc 2 _ rfl).1;have y3:=(hc 3 _ rfl).1;have y4:=(hc 4 _ rfl).1;have y5:=(hc 5 _ rfl).1;have y6:=(hc 6 _ rfl).1
  have y7:=(hc 7 _ rfl).1;have y8:=(hc 8 _ rfl).1;have y9:=(hc 9 _ rfl).1;have zE:=(hc 10 _ rfl).1;have zF:=(hc 11 _ rfl).1;have HF:Hid (Rn c a b/\Tn V w zA):=⟨zK,Tn.fresh ((Tn.of HZ.o.2.2.1).trans zB) ht (by omega)⟩;clear hc ht zK;simp[Leaves,settle,results,results39,go_sem,y0,y1,y2,y3,y4,y5,y6,y7,y8,y9,zE,zF];exact zN.o c a b _ HF.o.1 HF.o.2
 ·have zD:=Aa.same HZ.o.1 (zB.block _ (by omega) zC)
  have zI:=(zB.block _ (by omega) zC).trans HZ.o.2.1;have H1:Hid _:=And.intro hy (And.intro zB zI);obtain⟨⟨y0,q0⟩,⟨y1,q1⟩,⟨y2,q2⟩,⟨y3,q3⟩,⟨y4,q4⟩,⟨y5,q5⟩,⟨y6,q6⟩,⟨y7,q7⟩,⟨y8,q8⟩,⟨y9,q9⟩,⟨zE,zT⟩,zF,zU⟩:=CN zD;clear hy zB zD zI e0 e1 e2 e3 e4 e5 HC zz zC;go_wp2;refine leaves_cons (f:=61) (args:= #[.pointer (some ⟨w.heap.size+1,0,none⟩)]) (by simp) (by simp[go_sem]) ?_
  refine(MZ ⟨w.heap.size+1,0,none⟩ _).mono ?_;rintro e u' zA ⟨rfl,rfl,rfl⟩;have HT:Hid _:=DX w1 (w.heap.size+1) (.int .i64 0) (.int .i64 0) (.int .i64 0) (.int .i64 0) (.int .i64 0) (.slice none 0 0) (.slice none 0 0) (.slice none 0 0) (.string sm) (.int .i64 le) (.string ⟨#[]⟩) (.string ⟨#[]⟩)
  have HF:Hid _:=And.intro (zP.o sm le _ _ _ _ H1.o.1 H1.o.2.2 (by omega) HT.o) (Tn.fresh ((Tn.of HZ.o.2.2.1).trans H1.o.2.1) HT.o (by omega));simp[Leaves,settle,results,results39,go_sem,y0,y1,y2,y3,y4,y5,y6,y7,y8,y9,zE,zF];exact zO.o sm le _ HF.o.1 HF.o.2
theorem IH (base d m:Nat) (O P L:Value) (wd now given births:Int) (ks:List Kd) (ps:List Pd) (ls:List Ld) (s nm tx:ByteArray) (num:Int) (ra:Option Addr) (rn rc:Nat) (w:World) (h:DU w base d m O P L wd now given births ks ps ls) (zS:∀k∈ks,(k.sum.size:Int)=wd) (zU:Av ks s) (hl:ls.length<200) (zM:0<=given) (zN:given<1000000000) (zP:0<=now) (zQ:now<=1000000000) (zT:0<=num) (zA:num<=1000000000):
 Calls prog 62 #[.pointer (some ⟨d,0,none⟩),.agg #[.int .i64 4,.string s,.string nm,.int .i64 num,.string tx,.slice ra rn rc]] w fun e w'=>e=.returned (.agg #[.int .i64 0,.int .i64 0,.int .i64 0,.int .i64 0,.int .i64 0,.slice none 0 0,.slice none 0 0,.slice none 0 0,.string ⟨#[]⟩,.int .i64 (given+1),.string ⟨#[]⟩,.string ⟨#[]⟩])/\∃L',DU w' base d m O P L' wd now (given+1) births ks ps (ls++[⟨given+1,s,now+num⟩])/\Tn (d::L.ownBlock.toList) w w':=by
 obtain⟨W,hW⟩:∃W,W=((w.alloc (.cells #[.int .i64 4,.string s,.string nm,.int .i64 num,.string tx,.slice ra rn rc] 92)).alloc (.cells #[.int .i64 0,.int .i64 0,.int .i64 0,.int .i64 0,.int .i64 0,.slice none 0 0,.slice none 0 0,.slice none 0 0,.string ⟨#[]⟩,.int .i64 0,.string ⟨#[]⟩,.string ⟨#[]⟩] 96)).alloc (.cells #[.int .i64 0,.int .i64 0,.int .i64 0,.int .i64 0,.int .i64 0,.slice none 0 0,.slice none 0 0,.slice none 0 0,.string ⟨#[]⟩,.int .i64 0,.string ⟨#[]⟩,.string ⟨#[]⟩] 96):=⟨_,rfl⟩
 have hB:=(Bn hW).1;have zJ:=(Bn hW).2.1;have xE:=(Bn hW).2.2.1;have zR:Aa W (w.heap.size+1) AJ:=by
  have h1:=Aa.new (w.alloc (.cells #[.int .i64 4,.string s,.string nm,.int .i64 num,.string tx,.slice ra rn rc] 92)) AJ 96;rw[World.size_alloc] at h1;rw[hW];exact Aa.below (v:=.int .i64 0) h1 (Ur)
 have zO:Aa W (w.heap.size+2) AJ:=by
  have h1:=Aa.new ((w.alloc (.cells #[.int .i64 4,.string s,.string nm,.int .i64 num,.string tx,.slice ra rn rc] 92)).alloc (.cells #[.int .i64 0,.int .i64 0,.int .i64 0,.int .i64 0,.int .i64 0,.slice none 0 0,.slice none 0 0,.slice none 0 0,.string ⟨#[]⟩,.int .i64 0,.string ⟨#[]⟩,.string ⟨#[]⟩] 96)) AJ 96;rw[World.size_alloc,World.size_alloc] at h1;rw[hW];exact h1
 have zH:W.heap[w.heap.size+1]?=some (.cells #[.int .i64 0,.int .i64 0,.int .i64 0,.int .i64 0,.int .i64 0,.slice none 0 0,.slice none 0 0,.slice none 0 0,.string ⟨#[]⟩,.int .i64 0,.string ⟨#[]⟩,.string ⟨#[]⟩] 96):=by
  rw[hW,Below.heap_alloc _ _ _ (by simp)];have:=heap_alloc_new (w.alloc (.cells #[.int .i64 4,.string s,.string nm,.int .i64 num,.string tx,.slice ra rn rc] 92)) (.cells #[.int .i64 0,.int .i64 0,.int .i64 0,.int .i64 0,.int .i64 0,.slice none 0 0,.slice none 0 0,.slice none 0 0,.string ⟨#[]⟩,.int .i64 0,.string ⟨#[]⟩,.string ⟨#[]⟩] 96);rw[World.size_alloc] at this;exact this
 have zF:W.heap[w.heap.size+2]?=some (.cells #[.int .i64 0,.int .i64 0,.int .i64 0,.int .i64 0,.int .i64 0,.slice none 0 0,.slice none 0 0,.slice none 0 0,.string ⟨#[]⟩,.int .i64 0,.string ⟨#[]⟩,.string ⟨#[]⟩] 96):=by
  have:=heap_alloc_new ((w.alloc (.cells #[.int .i64 4,.string s,.string nm,.int .i64 num,.string tx,.slice ra rn rc] 92)).alloc (.cells #[.int .i64 0,.int .i64 0,.int .i64 0,.int .i64 0,.int .i64 0,.slice none 0 0,.slice none 0 0,.slice none 0 0,.string ⟨#[]⟩,.int .i64 0,.string ⟨#[]⟩,.string ⟨#[]⟩] 96)) (.cells #[.int .i64 0,.int .i64 0,.int .i64 0,.int .i64 0,.int .i64 0,.slice none 0 0,.slice none 0 0,.slice none 0 0,.string ⟨#[]⟩,.int .i64 0,.string ⟨#[]⟩,.string ⟨#[]⟩] 96)
  rw[World.size_alloc,World.size_alloc] at this;rw[hW];exact this
 have hD:=h.below hB;have zX:=h.dr.box.lt;have zI:∀b∈d::L.ownBlock.toList,b<w.heap.size:=fun b hb=>h.dr.lts b (by unfold vB;simp at hb ⊢;rcases hb with rfl|hb<;>simp[*]);have HC:Hid _:=Ll base d m O P L wd now given births ks ps ls s num W hD zS zU hl zM zN zP zQ zT zA;have HW:Hid _:=hW
 have HZ:Hid (Aa W (w.heap.size+1) AJ/\Aa W (w.heap.size+2) AJ/\W.heap[w.heap.size+1]?=some (.cells #[.int .i64 0,.int .i64 0,.int .i64 0,.int .i64 0,.int .i64 0,.slice none 0 0,.slice none 0 0,.slice none 0 0,.string ⟨#[]⟩,.int .i64 0,.string ⟨#[]⟩,.string ⟨#[]⟩] 96)/\W.heap[w.heap.size+2]?=some (.cells #[.int .i64 0,.int .i64 0,.int .i64 0,.int .i64 0,.int .i64 0,.slice none 0 0,.slice none 0 0,.slice none 0 0,.string ⟨#[]⟩,.int .i64 0,.string ⟨#[]⟩,.string ⟨#[]⟩] 96)/\Uq w W/\W.heap.size=w.heap.size+3/\base<=w.heap.size):=⟨zR,zO,zH,zF,hB,zJ,h.lo⟩
 have zC:Hid _:=zI;obtain⟨e0,e1,e2,e3⟩:=Aa.c4 xE 0 1 2 3;clear hW h hD zR zO zH zF hB zJ xE zI;go_enter func62,ntmps62;go_upto_region 2 with fail;rw[←HW.o];clear HW;go_wp2_with fail;refine Calls.mono HC.o ?_;rintro e w1 ⟨rfl,V,zD,zA⟩;have zz:=HZ.o.2.2.2.2.2.1;have zL:=Aa.same HZ.o.1 (zA.block _ (by omega) (fun h=>by have:=zC.o _ h;omega))
 have zK:=Aa.same HZ.o.2.1 (zA.block _ (by omega) (fun h=>by have:=zC.o _ h;omega));have zG:=(zA.block _ (by omega) (fun h=>by have:=zC.o _ h;omega)).trans HZ.o.2.2.1;have zE:=(zA.block _ (by omega) (fun h=>by have:=zC.o _ h;omega)).trans HZ.o.2.2.2.1;have zB:Hid _:=And.intro zD (And.intro zA (And.intro (zD.notin zG (by omega)) (zD.notin zE (by omega))))
 obtain⟨⟨y0,q0⟩,⟨y1,q1⟩,⟨y2,q2⟩,⟨y3,q3⟩,⟨y4,q4⟩,⟨y5,q5⟩,⟨y6,q6⟩,⟨y7,q7⟩,⟨y8,q8⟩,⟨y9,q9⟩,⟨zV,yA⟩,zW,yB⟩:=CN zL;obtain⟨⟨v0,p0⟩,⟨v1,p1⟩,⟨v2,p2⟩,⟨v3,p3⟩,⟨v4,p4⟩,⟨v5,p5⟩,⟨v6,p6⟩,⟨v7,p7⟩,⟨v8,p8⟩,⟨v9,p9⟩,⟨yC,zY⟩,yD,zZ⟩:=CN zK;clear zD zA zL zK zG zE e0 e1 e2 e3 HC zz;go_wp2
 refine bodyPost_ret (v:=.agg #[.int .i64 0,.int .i64 0,.int .i64 0,.int .i64 0,.int .i64 0,.slice none 0 0,.slice none 0 0,.slice none 0 0,.string ⟨#[]⟩,.int .i64 (given+1),.string ⟨#[]⟩,.string ⟨#[]⟩]) (by simp[results,results62,go_sem,y0,y1,y2,y3,y4,y5,y6,y7,y8,y9,zV,zW]) rfl ?_
 have T9:=(Tn.set (V:=[w.heap.size+1,w.heap.size+2]) w1 (w.heap.size+2) 9 (.int .i64 (given+1)) (by simp)).trans (Tn.mono (DX (w1.setCell ⟨w.heap.size+2,9,none⟩ (.int .i64 (given+1))) (w.heap.size+1) (.int .i64 0) (.int .i64 0) (.int .i64 0) (.int .i64 0) (.int .i64 0) (.slice none 0 0) (.slice none 0 0) (.slice none 0 0) (.string ⟨#[]⟩) (.int .i64 (given+1)) (.string ⟨#[]⟩) (.string ⟨#[]⟩)) (by simp))
 refine⟨rfl,V,zB.o.1.turn T9 (by intro b hb;simp at hb;have:=HZ.o.2.2.2.2.2.2;rcases hb with rfl|rfl;exact⟨by omega,zB.o.2.2.1⟩;exact⟨by omega,zB.o.2.2.2⟩),?_⟩;have t0:=(Tn.of (V:=d::L.ownBlock.toList) HZ.o.2.2.2.2.1).trans zB.o.2.1
 exact⟨T9.os.trans t0.os,T9.tape.trans t0.tape,T9.output.trans t0.output,Uz t0.size T9.size,fun b hb hv=>(T9.block b (Uy hb t0.size) (by simp;omega)).trans (t0.block b hb hv)⟩
def CP (ps:List Pd) (n s:ByteArray):List Pd:=ps.filter (fun x=>less x.name n)++[⟨n,s⟩]++ps.filter (fun x=> !(less x.name n)&& !decide (x.name=n))
theorem CC.split {ps:List Pd} {n:ByteArray} {i:Nat} (h:CC ps n i):ps.filter (fun x=>less x.name n)=ps.take i:=by
 have e:=(List.take_append_drop i ps).symm
 conv=>lhs;rw[e]
 rw[List.filter_append,List.filter_eq_self.2 (fun x hx=> ?_),List.filter_eq_nil_iff.2 (fun x hx=> ?_),List.append_nil]
 ·obtain⟨j,hj⟩:=List.getElem?_of_mem hx
  rw[List.getElem?_drop] at hj;rw[h.hi (i+j) x (by omega) hj];simp
 ·obtain⟨j,hj⟩:=List.getElem?_of_mem hx
  have zA:=(Ut hj).1;rw[List.length_take] at zA;rw[List.getElem?_take_of_lt (by omega)] at hj;exact h.lo j x (by omega) hj
theorem CC.above {ps:List Pd} {n:ByteArray} {i:Nat} (h:CC ps n i):ps.filter (fun x=> !(less x.name n)&& !decide (x.name=n))=(ps.drop i).filter (fun x=> !decide (x.name=n)):=by
 have e:=(List.take_append_drop i ps).symm
 conv=>lhs;rw[e]
 rw[List.filter_append,List.filter_eq_nil_iff.2 (fun x hx=> ?_),List.nil_append]
 ·refine List.filter_congr (fun x hx=> ?_)
  obtain⟨j,hj⟩:=List.getElem?_of_mem hx;rw[List.getElem?_drop] at hj;rw[h.hi (i+j) x (by omega) hj];simp
 ·obtain⟨j,hj⟩:=List.getElem?_of_mem hx
  have zA:=(Ut hj).1;rw[List.length_take] at zA;rw[List.getElem?_take_of_lt (by omega)] at hj;rw[h.lo j x (by omega) hj];simp
theorem Mf {ps:List Pd} {n s:ByteArray} {i:Nat} (h:CC ps n i) (zA:¬∃x∈ps,x.name=n):CP ps n s=ps.take i++[⟨n,s⟩]++ps.drop i:=by
 unfold CP;rw[h.split,h.above,List.filter_eq_self.2 (fun x hx=> ?_)];have hn:x.name≠n:=fun e=>zA ⟨x,List.mem_of_mem_drop hx,e⟩;simpa using hn
theorem PG {ps:List Pd} {n s:ByteArray} {i:Nat} {x:Pd} (h:CC ps n i) (hx:ps[i]?=some x) (hn:x.name=n) (zA:ps.Pairwise (fun a b=>less a.name b.name=true)):CP ps n s=ps.set i ⟨n,s⟩:=by
 obtain⟨zB,e⟩:=Ut hx;unfold CP;rw[h.split,h.above,List.drop_eq_getElem_cons zB,List.filter_cons,e,hn];simp only[decide_true,Bool.not_true,Bool.false_eq_true,if_false];rw[List.filter_eq_self.2 (fun y hy=> ?_),List.set_eq_take_append_cons_drop,if_pos zB,List.append_assoc]
 ·rfl
 ·obtain⟨j,hj⟩:=List.getElem?_of_mem hy
  rw[List.getElem?_drop] at hj;obtain⟨zC,e2⟩:=Ut hj;have:=List.pairwise_iff_getElem.1 zA i (i+1+j) zB zC (by omega);rw[e,e2,hn] at this;have zD:y.name≠n:=fun e3=>by rw[e3,BL] at this;cases this
  simpa using zD
theorem Nb {w:World} {base g cap n:Nat} {ps:List Pd} (h:w.ownsRow base 108 2 (.slice (some ⟨g,0,none⟩) n cap) n (Ab pC ps)) {i:Nat} {x:Pd} (hx:ps[i]?=some x) (s:ByteArray):(w.setCell ⟨g,i *2+1,none⟩ (.string s)).ownsRow base 108 2 (.slice (some ⟨g,0,none⟩) n cap) n (Ab pC (ps.set i ⟨x.name,s⟩)):=by
 have hi:=(Ut hx).1;have h1:=(h.stored (i *2+1) (.string s)).1;have h0:(Ab pC ps)[i *2]?=some (.string x.name):=by
  have:=Cf Bp hx (show 0<2 by decide);simpa [pC] using this
 have e1:=Lr hi (⟨x.name,s⟩:Pd);have e0:(Ab pC ps).set (i *2) (.string x.name)=Ab pC ps:=by
  obtain⟨hl,e⟩:=Ut h0;rw[←e];exact List.set_getElem_self hl
 rw[e0] at e1;rw[e1] at h1;exact h1
theorem Rf (base d m:Nat) (O P L:Value) (wd now given births:Int) (ks:List Kd) (ps:List Pd) (ls:List Ld) (n s:ByteArray) (w:World) (h:DU w base d m O P L wd now given births ks ps ls) (zP:∀k∈ks,(k.sum.size:Int)=wd) (zF:Av ks s) (hl:ps.length<=200) (zB:ps.Pairwise (fun a b=>less a.name b.name=true)) (zN:∃x∈ps,x.name=n):
 Calls prog 89 #[.pointer (some ⟨d,0,none⟩),.string n,.string s] w fun e w'=>e=.returned (.tuple #[])/\∃P',DU w' base d m O P' L wd now given births ks (CP ps n s) ls/\Tn (d::P.ownBlock.toList) w w':=by
 have zM:0<ps.length:=by obtain⟨x,hx,_⟩:=zN;exact List.length_pos_of_mem hx
 obtain⟨g,cap,zQ⟩:=Gw h.dr.pin zM;subst zQ;have HN:Hid _:=Dj base d m O (.slice (some ⟨g,0,none⟩) ps.length cap) L wd now given births ks ps ls s w h.dr zP zF;have HD:Hid (DU w base d m O (.slice (some ⟨g,0,none⟩) ps.length cap) L wd now given births ks ps ls):=h;have zG:Hid (ps.Pairwise (fun a b=>less a.name b.name=true)):=zB;have zO:Hid (∃x∈ps,x.name=n):=zN;clear h zB zN zP zF
 go_enter func89,ntmps89;go_wp2_with fail;refine Calls.mono HN.o ?_;rintro e w1 ⟨rfl,zH⟩;have zJ:=HD.o.below zH;have HS:Hid _:=Gy base d m O L g cap wd now given births ks ps ls n w1 zJ hl zG.o;clear HN;go_wp2_with fail;refine Calls.mono HS.o ?_;rintro e w2 ⟨i,rfl,zL,zK⟩;obtain⟨x,zD,zI⟩:=zL.at zO.o zG.o;have zE:decide (∃x,ps[i]?=some x/\x.name=n)=true:=by simpa using ⟨x,zD,zI⟩
 have zW:i<ps.length:=(Ut zD).1;have HE:Hid (CP ps n s=ps.set i ⟨n,s⟩):=PG zL zD zI zG.o;have zA:=zJ.below zK;obtain⟨c6,_⟩:=zA.dr.box 6 _ rfl;have zU:w2.cell? ⟨g,i *2+1,none⟩=some (.string x.sum):=by
  have:=(zA.dr.pin.cellAt (i *2+1) (by omega)).trans (Cf Bp zD (show 1<2 by decide));simpa [pC] using this
 have zV:w2.frozen? ⟨g,i *2+1,none⟩=false:=zA.dr.pin.frozenAt _;have zT:g≠d:=((Cm zA.dr.ap).2.2.1 g rfl).1;have zC:=Nb zA.dr.pin zD s;rw[zI] at zC;have hK:∃P',DU (w2.setCell ⟨g,i *2+1,none⟩ (.string s)) base d m O P' L wd now given births ks (CP ps n s) ls/\Tn (d::(Value.slice (some ⟨g,0,none⟩) ps.length cap).ownBlock.toList) w (w2.setCell ⟨g,i *2+1,none⟩ (.string s)):=by
  have t1:Tn (d::(Value.slice (some ⟨g,0,none⟩) ps.length cap).ownBlock.toList) w2 (w2.setCell ⟨g,i *2+1,none⟩ (.string s)):=(Gt w2 g _ _).mono (by intro b hb;simp[Value.ownBlock] at hb ⊢;exact .inr hb)
  have zR:Aa (w2.setCell ⟨g,i *2+1,none⟩ (.string s)) d [.int .i64 wd,.map (some m),.int .i64 now,.int .i64 given,.int .i64 births,O,.slice (some ⟨g,0,none⟩) ps.length cap,L]:=Aa.same zA.dr.box (Below.heap_setCell _ _ _ _ (fun e=>zT e.symm));refine⟨.slice (some ⟨g,0,none⟩) ps.length cap,zA.newP t1 zR ?_ (.inl rfl),(Tn.of (zH.trans (zK.mono zH.size))).trans t1⟩;rw[HE.o,List.length_set];exact zC
 have HK:Hid _:=hK;have zS:(i:Int)<ps.length:=by omega
 rw[zE];clear zE hK zC zD zI zL zJ zA zH zK HD HS zO zG;go_wp2;refine bodyPost_ret (results_none rfl _ _ _) rfl ?_;exact⟨rfl,HK.o⟩
theorem Mg (base d m:Nat) (O P L:Value) (wd now given births:Int) (ks:List Kd) (ps:List Pd) (ls:List Ld) (n s:ByteArray) (w:World) (h:DU w base d m O P L wd now given births ks ps ls) (zB:∀k∈ks,(k.sum.size:Int)=wd) (zA:¬Av ks s):
 Calls prog 89 #[.pointer (some ⟨d,0,none⟩),.string n,.string s] w fun e w'=>e=.panicked [{v:=refV 2 ⟨#[]⟩ ⟨#[]⟩,recovered:=false}]/\Uq w w':=by
 have HN:Hid _:=GV base d m O P L wd now given births ks ps ls s w h.dr zB zA;clear h zB zA;go_enter func89,ntmps89;go_wp2_with fail;refine Calls.mono HN.o ?_;rintro e w1 ⟨rfl,zC⟩;go_wp2;exact⟨rfl,rfl,zC⟩
theorem PH (base d m:Nat) (O P L:Value) (wd now given births:Int) (ks:List Kd) (ps:List Pd) (ls:List Ld) (n s:ByteArray) (w:World) (h:DU w base d m O P L wd now given births ks ps ls) (zJ:∀k∈ks,(k.sum.size:Int)=wd) (zC:Av ks s) (hl:ps.length=100) (zA:ps.Pairwise (fun a b=>less a.name b.name=true)) (zK:¬∃x∈ps,x.name=n):
 Calls prog 89 #[.pointer (some ⟨d,0,none⟩),.string n,.string s] w fun e w'=>e=.panicked [{v:=refV 4 ⟨#[]⟩ ⟨#[]⟩,recovered:=false}]/\Uq w w':=by
 obtain⟨pa,zL,zN⟩:=AK h.dr.pin;subst zN;have HN:Hid _:=Dj base d m O (.slice pa ps.length zL) L wd now given births ks ps ls s w h.dr zJ zC;have HD:Hid _:=h;have zG:Hid _:=zA;have zH:Hid _:=zK;have zO:((ps.length:Int)==100)=true:=by simp;omega
 have zM:Hid _:=hl;clear h zA zK zJ zC hl;go_enter func89,ntmps89;go_wp2_with fail;refine Calls.mono HN.o ?_;rintro e w1 ⟨rfl,zD⟩;have zE:=HD.o.below zD;have HS:Hid _:=Gz base d m O (.slice pa ps.length zL) L wd now given births ks ps ls n w1 zE (by have:=zM.o;omega) zG.o;clear HN;go_wp2_with fail;refine Calls.mono HS.o ?_;rintro e w2 ⟨i,rfl,_,zF⟩
 have zB:decide (∃x,ps[i]?=some x/\x.name=n)=false:=by
  rw[decide_eq_false_iff_not];rintro⟨x,hx,hn⟩;exact zH.o ⟨x,Ux hx,hn⟩
 have zI:=zE.below zF;obtain⟨c6,_⟩:=zI.dr.box 6 _ rfl;have HB:Hid _:=zD.trans (zF.mono zD.size);rw[zB];clear zB zE zI zD zF HD HS zH zG;go_wp2;exact⟨rfl,rfl,HB.o⟩
theorem BG {P:Program} (w:World) (dT sT ty elem:TypeId) (i:TypeInfo) (k b o zA zC:Nat) (a:Addr) (zB zE:Nat) (cs:List Value)
 (hu:P.underlying dT=some (.slice elem)) (hi:P.info? elem=some i) (hk:i.size=k) (hn:cs.length=Nat.min zB zA *k)
 (zD:∀j v,cs[j]?=some v->w.cell? (a.add j)=some v) (hc:∀j,j<cs.length->(w.cell? ⟨b,o+j,none⟩).isSome=true) (hf:∀j,j<cs.length->w.frozen? ⟨b,o+j,none⟩=false) (h1:∀v∈cs,v.oneCell'=true):
 (Builtin.copy_ #[dT,sT] ty #[.slice (some ⟨b,o,none⟩) zA zC,.slice (some a) zB zE]).run P w=.ok (goInt (Nat.min zB zA)) (w.setCells b o cs):=by
 have hl:=run_loadCells_list (P:=P) w a cs zD;have zF:=run_storeCells_cells (P:=P) b o cs 0 w (by simpa using hc) (by simpa using hf) h1;rw[hn] at hl;subst hk;simp[Builtin.copy_,run_underlying hu,Builtin.lenOf,Builtin.firstCells,sizeOf,typeInfo,hi,hl,zF]
theorem CU (g:Nat) (t:TypeId) (fr:Nat×Nat):∀(vs:List Value) (o:Nat) (w:World) (cur:Array Value),w.heap[g]?=some (.cells cur t fr)->o+vs.length<=cur.size->
 (w.setCells g o vs).heap[g]?=some (.cells (cur.toList.take o++vs++cur.toList.drop (o+vs.length)).toArray t fr)
 |[],o,w,cur,hg,_=>by simpa [World.setCells] using hg
 |v::r,o,w,cur,hg,hl=>by
  simp only[List.length_cons] at hl;rw[World.setCells];have h1:(w.setCell ⟨g,o,none⟩ v).heap[g]?=some (.cells (cur.setIfInBounds o v) t fr):=by
   rw[setCell_eq_setRow w g o cur t fr v hg];exact setRow_heap w g cur _ t _ hg
  rw[CU g t fr r (o+1) _ _ h1 (by simp;omega)];have e:=list_seg_step cur.toList o v r (by simp;omega);simp only[Array.toList_setIfInBounds,List.length_cons];rw[e]
theorem JT {w:World} {base g cap n k i:Nat} {e:TypeId} {xs vs:List Value} (h:w.ownsRow base e k (.slice (some ⟨g,0,none⟩) n cap) n xs) (hi:i<=n) (hv:vs.length=k) (hr:n+1<=cap):
 ((w.setCells g ((i+1) *k) (xs.drop (i *k))).setCells g (i *k) vs).ownsRow base e k (.slice (some ⟨g,0,none⟩) (n+1) cap) (n+1) (xs.take (i *k)++vs++xs.drop (i *k)):=by
 obtain⟨hx,hq⟩:=h;rcases hq with⟨e,_⟩|⟨g',zE,zB,e,hb,hg,h1,h2,h3,h4⟩
 ·cases e
 ·cases e
  have m1:=Nat.mul_le_mul_right k hi;have m2:=Nat.mul_le_mul_right k hr;rw[Nat.add_mul] at m2 ⊢;have zA:(xs.take (i *k)++vs++xs.drop (i *k)).length=n *k+k:=by rw[List.length_append,List.length_append,List.length_take,List.length_drop,hx,hv];omega
  have zD:(n+1) *k=n *k+k:=by rw[Nat.add_mul];omega
  have zC:(xs.drop (i *k)).length=n *k -i *k:=by rw[List.length_drop,hx]
  have e1:=CU g e (0,0) (xs.drop (i *k)) (i *k+1 *k) w zB hg (by rw[zC,h3];omega);have e2:=CU g e (0,0) vs (i *k) _ _ e1 (by simp[zC,h3,hv];omega);refine⟨by rw[zA,zD],.inr ⟨g,cap,_,rfl,hb,e2,hr,h2,?_,?_⟩⟩
  ·simp[zC,h3,hv];omega
  ·have t1:(zB.toList.take (i *k+1 *k)++xs.drop (i *k)++zB.toList.drop (i *k+1 *k+(xs.drop (i *k)).length)).take (i *k)=xs.take (i *k):=by
    rw[List.append_assoc,List.take_append_of_le_length (by simp[h3];omega),List.take_take,Nat.min_eq_left (by omega),←h4,List.take_take,Nat.min_eq_left (by omega)]
   have t2:(zB.toList.take (i *k+1 *k)++xs.drop (i *k)++zB.toList.drop (i *k+1 *k+(xs.drop (i *k)).length)).drop (i *k+vs.length)=xs.drop (i *k)++zB.toList.drop (i *k+1 *k+(xs.drop (i *k)).length):=by
    rw[List.append_assoc,List.drop_append_of_le_length (by simp[h3,hv];omega),List.drop_eq_nil_of_le (by simp[h3,hv];omega),List.nil_append]
   rw[List.toList_toArray,List.toList_toArray,t1,t2,←List.append_assoc,List.take_append_of_le_length (by rw[zA,zD];exact Us),Uw (by rw[zA,zD];exact Us)]
theorem Lu {w:World} {base g n k i G:Nat} {e:TypeId} {xs vs zs:List Value} (hx:xs.length=n *k) (hi:i<=n) (hv:vs.length=k) (hb:base<=g) (hg:w.heap[g]?=some (.cells (xs.take (i *k)++zs).toArray e (0,0))) (hz:i *k+zs.length=G *k) (hG:n+1<=G) (zE:G<=maxLen):
 ((w.setCells g (i *k) vs).setCells g ((i+1) *k) (xs.drop (i *k))).ownsRow base e k (.slice (some ⟨g,0,none⟩) (n+1) G) (n+1) (xs.take (i *k)++vs++xs.drop (i *k)):=by
 have m1:=Nat.mul_le_mul_right k hi;have m2:=Nat.mul_le_mul_right k hG;rw[Nat.add_mul] at m2 ⊢;have zA:(xs.take (i *k)++vs++xs.drop (i *k)).length=n *k+k:=by rw[List.length_append,List.length_append,List.length_take,List.length_drop,hx,hv];omega
 have zC:(n+1) *k=n *k+k:=by rw[Nat.add_mul];omega
 have zB:(xs.take (i *k)).length=i *k:=by rw[List.length_take,hx];omega
 have zD:(xs.drop (i *k)).length=n *k -i *k:=by rw[List.length_drop,hx]
 have e1:=CU g e (0,0) vs (i *k) w _ hg (by simp[zB,hv];omega);have e2:=CU g e (0,0) (xs.drop (i *k)) (i *k+1 *k) _ _ e1 (by simp[zD,hv,zB];omega);refine⟨by rw[zA,zC],.inr ⟨g,G,_,rfl,hb,e2,hG,zE,?_,?_⟩⟩
 ·simp[zD,hv,zB];omega
 ·have t1:(xs.take (i *k)++zs).take (i *k)=xs.take (i *k):=by rw[List.take_append_of_le_length (by omega),Uw (by omega)]
  have t2:((xs.take (i *k)++zs).take (i *k)++vs++(xs.take (i *k)++zs).drop (i *k+vs.length)).take (i *k+1 *k)=xs.take (i *k)++vs:=by
   rw[t1,List.take_append_of_le_length (by simp[hv,zB]),Uw (by simp[hv,zB])]
  rw[t2,List.take_append_of_le_length (by rw[zA,zC];exact Us),Uw (by rw[zA,zC];exact Us)]
theorem Fj (b:Nat) (vs:List Value) (o:Nat) (w:World) (h:∀j,j<vs.length->(w.cell? ⟨b,o+j,none⟩).isSome=true) (k:Nat) (hk:(w.cell? ⟨b,k,none⟩).isSome=true):((w.setCells b o vs).cell? ⟨b,k,none⟩).isSome=true:=by
 by_cases hin:o<=k/\k<o+vs.length
 ·obtain⟨j,rfl⟩:∃j,k=o+j:=⟨k -o,by omega⟩
  rw[World.cell?_setCells_in b vs o w h j (by omega)];rfl
 ·rw[World.cell?_setCells_out b vs o w _ (fun _ _=>by show k<o∨o+vs.length<=k;omega)]
  exact hk
theorem GB (b:Nat):∀(vs:List Value) (o:Nat) (w:World),(w.setCells b o vs).drew=w.drew.setCells b o vs
 |[],_,_=>rfl
 |v::r,o,w=>by rw[World.setCells,World.setCells,GB b r];rfl
theorem EN (w:World) (a:Addr):w.drew.cell? a=w.cell? a:=rfl
theorem GC (w:World) (a:Addr):w.drew.frozen? a=w.frozen? a:=rfl
theorem Hj (w:World) (r:Option Nat):w.grownBy w.drew r:=⟨rfl,rfl,rfl,Us,fun _ _ _=>rfl⟩
theorem Cu {P:Program} (w:World) {ops:Array Oper} {rest:List Oper} {o:Oper} {a:Act} {Q:Exit->Act->World->Prop} (hg:o.guard=none) (d s:Operand) (t t':TypeId)
 (ho:o.op=.call {callee:=.builtin .copy,args:= #[d,s],argTypes:= #[t,t']}) (v u:Value) (hd:a.eval d=v) (hs:a.eval s=u) {v':Value} {w':World}
 (hr:(Builtin.copy_ #[t,t'] o.type #[v,u]).run P w=.ok v' w') (h:wpList P ops Q rest (a.put o.dst v') w'):wpList P ops Q (o::rest) a w:=by
 refine wpList_plain hg fun K hK=> ?_;unfold Oper.wp;simp[execOp,ho,resolve,invoke,builtin,hd,hs,hr,Result.andThen];exact hK _ _ h
theorem De {P:Program} {ops:Array Oper} {o:Oper} {a:Act} {w:World} {K:Act->World->Prop} {Q:Exit->Act->World->Prop} {E:Prop}
 (hg:o.guard=none) (d s:Operand) (t t':TypeId) (ho:o.op=.call {callee:=.builtin .copy,args:= #[d,s],argTypes:= #[t,t']})
 (v u:Value) (hd:a.eval d=v) (hs:a.eval s=u) {v':Value} {w':World} (hr:(Builtin.copy_ #[t,t'] o.type #[v,u]).run P w=.ok v' w') (hK:K (a.put o.dst v') w'):
 if Region.wanted o (yielded ops a.tmps)=true then Oper.wp P o a w K Q else E:=by
 rw[if_pos (by simp[Region.wanted,hg])];unfold Oper.wp;simp[execOp,ho,resolve,invoke,builtin,hd,hs,hr,Result.andThen];exact hK
end Go.Proofs.YtflhhhnlhlaehaaGreatDoor
