import Derived.Test.YtpekbmegopfhfaaGreatDoorK14
import Derived.Test.YtpekbmegopfhfaaGreatDoorK20
import Derived.Sort.Walk0
set_option maxRecDepth 100000
set_option maxHeartbeats 16000000
namespace Go.Proofs.YtpekbmegopfhfaaGreatDoor
open Go.ChangeShapes Go.WideShapes Go.ChangeAt Go.RowKit _root_.Go.Proofs.Tryz
theorem NR (d:Nat) (V:List Nat) (kd:Int) (s nm tx:ByteArray) (num:Int) (ra:Option Addr) (rn rc:Nat) (Rn:Int->ByteArray->ByteArray->Prop) (Ry:ByteArray->Int->World->Prop) (w:World) (hV:∀b∈V,b<w.heap.size)
 (zN:∀sm le X X' R cur,Ry sm le X->X.heap[R]?=some (.cells cur 30)->w.heap.size<=R->Tn [R] X X'->Ry sm le X')
 (h:∀X,Xz w X->Calls prog 139 #[.pointer (some ⟨d,0,none⟩),.agg #[XJ kd,.string s,.string nm,XJ num,.string tx,.slice ra rn rc]] X fun e w'=>(∃c a b,Rn c a b/\e=.panicked [{v:=BS c a b,recovered:=false}]/\Tn V X w')∨(∃sm le,e=.returned (.agg #[XK,XK,XK,XK,XK,XN,XN,XN,.string sm,XJ le,XM,XM])/\Ry sm le w'/\Tn V X w')):
 Calls prog 94 #[.pointer (some ⟨d,0,none⟩),.agg #[XJ kd,.string s,.string nm,XJ num,.string tx,.slice ra rn rc]] w fun e w'=>(∃c a b,Rn c a b/\e=.returned (.agg (BT c a b).toArray)/\Tn V w w')∨(∃sm le,e=.returned (.agg #[XK,XK,XK,XK,XK,XN,XN,XN,.string sm,XJ le,XM,XM])/\Ry sm le w'/\Tn V w w'):=by
 suffices hs:∀Q:Ending->World->Prop,(∀c a b zA,Rn c a b->Tn V w zA->Q (.returned (.agg (BT c a b).toArray)) zA)->(∀sm le zA,Ry sm le zA->Tn V w zA->Q (.returned (.agg #[XK,XK,XK,XK,XK,XN,XN,XN,.string sm,XJ le,XM,XM])) zA)->Calls prog 94 #[.pointer (some ⟨d,0,none⟩),.agg #[XJ kd,.string s,.string nm,XJ num,.string tx,.slice ra rn rc]] w Q from
  hs _ (fun c a b zA h1 h2=> .inl ⟨c,a,b,h1,rfl,h2⟩) (fun sm le zA h1 h2=> .inr ⟨sm,le,rfl,h1,h2⟩)
 intro Q zI zH;have zU:Hid _:=zI;have zS:Hid _:=zH;clear zI zH;have zV:∀(fn:Fn) (first cap:Array Value) (w:World),(Instr.makeFunc fn first cap).run prog w=.ok (.func fn first cap) w:=fun _ _ _ _=>rfl;obtain⟨W,hW⟩:∃W,W=(w.alloc (.cells #[XJ kd,.string s,.string nm,XJ num,.string tx,.slice ra rn rc] 77)).alloc (.cells #[XK,XK,XK,XK,XK,XN,XN,XN,XM,XK,XM,XM] 30):=⟨_,rfl⟩;have hB:=(AP hW).1
 have zJ:=(AP hW).2.1;have xE:=(AP hW).2.2.1;have zR:Aa W (w.heap.size+1) As:=by
  have h1:=Aa.new (w.alloc (.cells #[XJ kd,.string s,.string nm,XJ num,.string tx,.slice ra rn rc] 77)) As 30;rw[World.size_alloc] at h1;rw[hW];exact h1
 have zK:W.heap[w.heap.size+1]?=some (.cells #[XK,XK,XK,XK,XK,XN,XN,XN,XM,XK,XM,XM] 30):=by
  have:=heap_alloc_new (w.alloc (.cells #[XJ kd,.string s,.string nm,XJ num,.string tx,.slice ra rn rc] 77)) (.cells #[XK,XK,XK,XK,XK,XN,XN,XN,XM,XK,XM,XM] 30);rw[World.size_alloc] at this;rw[hW];exact this
 obtain⟨e0,e1,e2,e3,e4,e5⟩:=Aa.c6 xE 0 1 2 3 4 5;have HC:Hid _:=h W hB;have HW:Hid _:=hW;have HZ:Hid (Aa W (w.heap.size+1) As/\W.heap[w.heap.size+1]?=some (.cells #[XK,XK,XK,XK,XK,XN,XN,XN,XM,XK,XM,XM] 30)/\Xz w W/\W.heap.size=w.heap.size+2):=⟨zR,zK,hB,zJ⟩;have HV:Hid _:=hV;have zT:Hid _:=zN;clear hW zR zJ xE h zK hB hV zN
 go_enter_defers func94,ntmps94
 go_upto_region 1 with fail;rw[←HW.o];clear HW;go_wp2_with fail;refine Calls.mono HC.o ?_;intro e w1 zP;have zz:=HZ.o.2.2.2;have zC:w.heap.size+1∉V:=fun h=>by have:=HV.o _ h;omega
 obtain⟨c,a,b,zO,rfl,zB⟩|⟨sm,le,rfl,hy,zB⟩:=zP
 ·have zE:=Aa.same HZ.o.1 (zB.block _ (by omega) zC)
  clear e0 e1 e2 e3 e4 e5 HC;refine leaves_cons (f:=138) (args:= #[.pointer (some ⟨w.heap.size+1,0,none⟩)]) (by simp) (by simp[go_sem]) ?_;refine(NE (w.heap.size+1) c a b w1 zE).mono ?_;rintro e u' zA ⟨rfl,rfl,hc,ht⟩;have y0:=(hc 0 _ rfl).1;have y1:=(hc 1 _ rfl).1;have y2:=(hc 2 _ rfl).1;have y3:=(hc 3 _ rfl).1;have y4:=(hc 4 _ rfl).1;have y5:=(hc 5 _ rfl).1;have y6:=(hc 6 _ rfl).1
  have y7:=(hc 7 _ rfl).1;have y8:=(hc 8 _ rfl).1;have y9:=(hc 9 _ rfl).1;have zF:=(hc 10 _ rfl).1;have zG:=(hc 11 _ rfl).1;have HF:Hid (Rn c a b/\Tn V w zA):=⟨zO,Tn.fresh ((Tn.of HZ.o.2.2.1).trans zB) ht (by omega)⟩;clear hc ht zO;simp[Leaves,settle,results,results94,go_sem,y0,y1,y2,y3,y4,y5,y6,y7,y8,y9,zF,zG];exact zU.o c a b _ HF.o.1 HF.o.2
 ·have zE:=Aa.same HZ.o.1 (zB.block _ (by omega) zC)
  have zM:=(zB.block _ (by omega) zC).trans HZ.o.2.1;have H1:Hid _:=And.intro hy (And.intro zB zM);obtain⟨⟨y0,q0⟩,⟨y1,q1⟩,⟨y2,q2⟩,⟨y3,q3⟩,⟨y4,q4⟩,⟨y5,q5⟩,⟨y6,q6⟩,⟨y7,q7⟩,⟨y8,q8⟩,⟨y9,q9⟩,⟨zF,zX⟩,zG,zW⟩:=AS zE;clear hy zB zE zM e0 e1 e2 e3 e4 e5 HC zz zC;go_wp2;refine leaves_cons (f:=138) (args:= #[.pointer (some ⟨w.heap.size+1,0,none⟩)]) (by simp) (by simp[go_sem]) ?_
  refine(Pq ⟨w.heap.size+1,0,none⟩ _).mono ?_;rintro e u' zA ⟨rfl,rfl,rfl⟩;have HT:Hid _:=Bc w1 (w.heap.size+1) XK XK XK XK XK XN XN XN (.string sm) (XJ le) XM XM;have HF:Hid _:=And.intro (zT.o sm le _ _ _ _ H1.o.1 H1.o.2.2 (by omega) HT.o) (Tn.fresh ((Tn.of HZ.o.2.2.1).trans H1.o.2.1) HT.o (by omega));simp[Leaves,settle,results,results94,go_sem,y0,y1,y2,y3,y4,y5,y6,y7,y8,y9,zF,zG]
  exact zS.o sm le _ HF.o.1 HF.o.2
theorem Vg (base d m:Nat) (O P L:Value) (wd now given births:Int) (ks:List Kd) (ps:List Pd) (ls:List Ld) (n s:ByteArray) (w:World) (h:DU w base d m O P L wd now given births ks ps ls) (zE:∀k∈ks,(k.sum.size:Int)=wd) (zB:Au ks s) (hl:ps.length<=100) (zA:ps.Pairwise (fun a b=>less a.name b.name=true)) (zC:(∃x∈ps,x.name=n)∨ps.length<100):
 Calls prog 170 #[.pointer (some ⟨d,0,none⟩),.string n,.string s] w fun e w'=>e=.returned (.tuple #[])/\∃P',DU w' base d m O P' L wd now given births ks (Bi ps n s) ls/\Tn (d::P.ownBlock.toList) w w':=by
 by_cases hth:∃x∈ps,x.name=n
 ·exact UL base d m O P L wd now given births ks ps ls n s w h zE zB (by omega) zA hth
 ·exact UM base d m O P L wd now given births ks ps ls n s w h zE zB (by rcases zC with h|h;exact absurd h hth;exact h) zA hth
theorem LW (base d m:Nat) (O P L:Value) (wd now given births:Int) (ks:List Kd) (ps:List Pd) (ls:List Ld) (s nm tx:ByteArray) (num:Int) (ra:Option Addr) (rn rc:Nat) (w:World) (h:DU w base d m O P L wd now given births ks ps ls) (zS:∀k∈ks,(k.sum.size:Int)=wd) (zF:Au ks s) (hl:ps.length<=100) (zB:ps.Pairwise (fun a b=>less a.name b.name=true)) (zC:(∃x∈ps,x.name=nm)∨ps.length<100):
 Calls prog 139 #[.pointer (some ⟨d,0,none⟩),.agg #[XJ 2,.string s,.string nm,XJ num,.string tx,.slice ra rn rc]] w fun e w'=>e=.returned (.agg As.toArray)/\∃P',DU w' base d m O P' L wd now given births ks (Bi ps nm s) ls/\Tn (d::P.ownBlock.toList) w w':=by
 obtain⟨W,hW⟩:∃W,W=((w.alloc (.cells #[XJ 2,.string s,.string nm,XJ num,.string tx,.slice ra rn rc] 77)).alloc (.cells #[XK,XK,XK,XK,XK,XN,XN,XN,XM,XK,XM,XM] 30)).alloc (.cells #[XK,XK,XK,XK,XK,XN,XN,XN,XM,XK,XM,XM] 30):=⟨_,rfl⟩;have hB:=(Bp hW).1;have zK:=(Bp hW).2.1;have xE:=(Bp hW).2.2.1;have zR:Aa W (w.heap.size+1) As:=by
  have h1:=Aa.new (w.alloc (.cells #[XJ 2,.string s,.string nm,XJ num,.string tx,.slice ra rn rc] 77)) As 30;rw[World.size_alloc] at h1;rw[hW];exact Aa.below (v:=XK) h1 (XA)
 have zO:Aa W (w.heap.size+2) As:=by
  have h1:=Aa.new ((w.alloc (.cells #[XJ 2,.string s,.string nm,XJ num,.string tx,.slice ra rn rc] 77)).alloc (.cells #[XK,XK,XK,XK,XK,XN,XN,XN,XM,XK,XM,XM] 30)) As 30;rw[World.size_alloc,World.size_alloc] at h1;rw[hW];exact h1
 have zN:W.heap[w.heap.size+1]?=some (.cells #[XK,XK,XK,XK,XK,XN,XN,XN,XM,XK,XM,XM] 30):=by
  rw[hW,Below.heap_alloc _ _ _ (by simp)];have:=heap_alloc_new (w.alloc (.cells #[XJ 2,.string s,.string nm,XJ num,.string tx,.slice ra rn rc] 77)) (.cells #[XK,XK,XK,XK,XK,XN,XN,XN,XM,XK,XM,XM] 30);rw[World.size_alloc] at this;exact this
 have hD:=h.below hB;have zZ:=h.dr.box.lt;have zM:∀b∈d::P.ownBlock.toList,b<w.heap.size:=fun b hb=>h.dr.lts b (by unfold vB;simp at hb ⊢;rcases hb with rfl|hb<;>simp[*]);have HC:Hid _:=Vg base d m O P L wd now given births ks ps ls nm s W hD zS zF hl zB zC;have HW:Hid _:=hW
 have HZ:Hid (Aa W (w.heap.size+1) As/\Aa W (w.heap.size+2) As/\W.heap[w.heap.size+1]?=some (.cells #[XK,XK,XK,XK,XK,XN,XN,XN,XM,XK,XM,XM] 30)/\Xz w W/\W.heap.size=w.heap.size+3/\base<=w.heap.size):=⟨zR,zO,zN,hB,zK,h.lo⟩;have zG:Hid _:=zM;obtain⟨e0,e1,e2,e3⟩:=Aa.c4 xE 0 1 2 3;clear hW h hD zR zO zN hB zK xE zM;go_enter func139,ntmps139;go_upto_region 2 with fail;rw[←HW.o];clear HW;go_wp2_with fail
 refine Calls.mono HC.o ?_;rintro e w1 ⟨rfl,V,zE,zA⟩;have zz:=HZ.o.2.2.2.2.1;have zJ:=Aa.same HZ.o.1 (zA.block _ (by omega) (fun h=>by have:=zG.o _ h;omega));have zI:=Aa.same HZ.o.2.1 (zA.block _ (by omega) (fun h=>by have:=zG.o _ h;omega));have zP:=(zA.block _ (by omega) (fun h=>by have:=zG.o _ h;omega)).trans HZ.o.2.2.1;have zH:Hid _:=And.intro zE (And.intro zA (zE.notin zP (by omega)))
 obtain⟨⟨y0,q0⟩,⟨y1,q1⟩,⟨y2,q2⟩,⟨y3,q3⟩,⟨y4,q4⟩,⟨y5,q5⟩,⟨y6,q6⟩,⟨y7,q7⟩,⟨y8,q8⟩,⟨y9,q9⟩,⟨zT,zX⟩,zU,zW⟩:=AS zJ;obtain⟨⟨v0,_⟩,⟨v1,_⟩,⟨v2,_⟩,⟨v3,_⟩,⟨v4,_⟩,⟨v5,_⟩,⟨v6,_⟩,⟨v7,_⟩,⟨v8,_⟩,⟨v9,_⟩,⟨zY,_⟩,zV,_⟩:=AS zI;clear zE zA zJ zI zP e0 e1 e2 e3 HC zz;go_wp2
 refine bodyPost_ret (v:=.agg As.toArray) (by simp[results,results139,go_sem,y0,y1,y2,y3,y4,y5,y6,y7,y8,y9,zT,zU,As]) rfl ⟨rfl,V,zH.o.1.turn (Bc w1 (w.heap.size+1) _ _ _ _ _ _ _ _ _ _ _ _) (by intro b hb;simp at hb;subst hb;exact⟨by have:=HZ.o.2.2.2.2.2;omega,zH.o.2.2⟩),Tn.fresh ((Tn.of HZ.o.2.2.2.1).trans zH.o.2.1) (Bc w1 (w.heap.size+1) _ _ _ _ _ _ _ _ _ _ _ _) (by omega)⟩
theorem Ke (base d m:Nat) (O P L:Value) (wd now given births:Int) (ks:List Kd) (ps:List Pd) (ls:List Ld) (s nm tx:ByteArray) (num:Int) (ra:Option Addr) (rn rc:Nat) (w:World) (hd:Dr w base d m O P L wd now given births ks ps ls) (zN:EO wd ks) (hp:ps.length<=100) (hl:ls.length<=200) (zM:Au ks s) (zA:¬(((∃p∈ps,p.sum=s)∨∃l∈ls,l.sum=s)∨∃k∈ks,s∈k.refs)):
 Calls prog 139 #[.pointer (some ⟨d,0,none⟩),.agg #[XJ 7,.string s,.string nm,XJ num,.string tx,.slice ra rn rc]] w fun e w'=>e=.returned (.agg As.toArray)/\∃O',Dr w' base d m O' P L wd now given births (Ef ks s) ps ls/\O'.ownBlock=O.ownBlock/\Tn (vB d m O P L) w w':=by
 obtain⟨W,hW⟩:∃W,W=((w.alloc (.cells #[XJ 7,.string s,.string nm,XJ num,.string tx,.slice ra rn rc] 77)).alloc (.cells #[XK,XK,XK,XK,XK,XN,XN,XN,XM,XK,XM,XM] 30)).alloc (.cells #[XK,XK,XK,XK,XK,XN,XN,XN,XM,XK,XM,XM] 30):=⟨_,rfl⟩;have hB:=(Bp hW).1;have zH:=(Bp hW).2.1;have e0:W.cell? (XL (w.heap.size) 0)=some (XJ 7):=by rw[hW];simp[go_sem]
 have e1:W.cell? (XL (w.heap.size) 1)=some (.string s):=by rw[hW];simp[go_sem]
 have zR:Aa W (w.heap.size+1) As:=by
  have h1:=Aa.new (w.alloc (.cells #[XJ 7,.string s,.string nm,XJ num,.string tx,.slice ra rn rc] 77)) As 30;rw[World.size_alloc] at h1;rw[hW];exact Aa.below (v:=XK) h1 (XA)
 have zO:Aa W (w.heap.size+2) As:=by
  have h1:=Aa.new ((w.alloc (.cells #[XJ 7,.string s,.string nm,XJ num,.string tx,.slice ra rn rc] 77)).alloc (.cells As.toArray 30)) As 30;rw[World.size_alloc,World.size_alloc] at h1;rw[hW];exact h1
 have HD:Hid _:=hd.below hB;have HV:Hid (∀b∈vB d m O P L,b<w.heap.size):=by
  intro b hb;unfold vB at hb;simp only[List.mem_cons,List.mem_append,Option.mem_toList] at hb;rcases hb with rfl|rfl|hb|hb|hb
  ·exact hd.box.lt
  ·exact(hd.map.choose_spec.choose_spec.2.1).lt
  ·exact(Ac hd.ord hb).2
  ·exact(Ac hd.pin hb).2
  ·exact(Ac hd.lea hb).2
 have HR:Hid (W.heap[w.heap.size+1]?=some (.cells #[XK,XK,XK,XK,XK,XN,XN,XN,XM,XK,XM,XM] 30)):=by
  show _=_;rw[hW,Below.heap_alloc _ _ _ (by simp)];have:=heap_alloc_new (w.alloc (.cells #[XJ 7,.string s,.string nm,XJ num,.string tx,.slice ra rn rc] 77)) (.cells #[XK,XK,XK,XK,XK,XN,XN,XN,XM,XK,XM,XM] 30);rw[World.size_alloc] at this;exact this
 have zI:base<=w.heap.size:=by have:=hd.bd;have:=hd.box.lt;omega
 have HW:Hid _:=hW;have HZ:Hid _:=And.intro zR zO;have zC:Hid _:=zH;clear hW hd zR zO zH;go_enter func139,ntmps139;go_upto_region 2 with fail;rw[←HW.o];clear HW;go_wp2_with fail;refine(SL base d m O P L wd now given births ks ps ls s W HD.o zN hp hl zM zA).mono ?_;rintro e w1 ⟨rfl,O',zE,hO,zB⟩;have zG:=Aa.same HZ.o.1 (zB.block _ (by have:=zC.o;omega) (fun h=>by have:=HV.o _ h;omega))
 have zF:=Aa.same HZ.o.2 (zB.block _ (by have:=zC.o;omega) (fun h=>by have:=HV.o _ h;omega));obtain⟨⟨y0,q0⟩,⟨y1,q1⟩,⟨y2,q2⟩,⟨y3,q3⟩,⟨y4,q4⟩,⟨y5,q5⟩,⟨y6,q6⟩,⟨y7,q7⟩,⟨y8,q8⟩,⟨y9,q9⟩,⟨zK,zV⟩,zS,zU⟩:=AS zG;obtain⟨⟨v0,_⟩,⟨v1,_⟩,⟨v2,_⟩,⟨v3,_⟩,⟨v4,_⟩,⟨v5,_⟩,⟨v6,_⟩,⟨v7,_⟩,⟨v8,_⟩,⟨v9,_⟩,⟨zW,_⟩,zT,_⟩:=AS zF;have H1:Hid _:=And.intro zE (And.intro hO zB);clear zE hO zB zG zF e0 e1 HD;go_wp2
 have zJ:w.heap.size+1∉vB d m O' P L:=fun h=>by
  have:w.heap.size+1∈vB d m O P L:=by
   unfold vB at h ⊢;rw[H1.o.2.1] at h;exact h
  have:=HV.o _ this;omega
 have zP:∀cur fz,w1.heap[w.heap.size+1]?≠some (.cells cur 9 fz):=fun cur fz e=>by
  have h1:=H1.o.2.2.block (w.heap.size+1) (by have:=zC.o;omega) (fun h=>by have:=HV.o _ h;omega);rw[e,HR.o] at h1;simp at h1
 refine bodyPost_ret (v:=.agg As.toArray) (by simp[results,results139,go_sem,y0,y1,y2,y3,y4,y5,y6,y7,y8,y9,zK,zS,As]) rfl ⟨rfl,O',Dr.apart H1.o.1 (Bc w1 _ _ _ _ _ _ _ _ _ _ _ _ _) (by omega) zJ zP,H1.o.2.1,Tn.fresh ((Tn.of hB).trans H1.o.2.2) (Bc w1 _ _ _ _ _ _ _ _ _ _ _ _ _) (by omega)⟩
theorem Jr (base d m:Nat) (O P L:Value) (wd now given births:Int) (ks:List Kd) (ps:List Pd) (ls:List Ld) (s nm tx:ByteArray) (num:Int) (ra:Option Addr) (rn rc:Nat) (w:World) (hd:Dr w base d m O P L wd now given births ks ps ls) (zE:EO wd ks) (hp:ps.length<=100) (hl:ls.length<=200) (zC:Au ks s) (zA:((∃p∈ps,p.sum=s)∨∃l∈ls,l.sum=s)∨∃k∈ks,s∈k.refs):
 Calls prog 139 #[.pointer (some ⟨d,0,none⟩),.agg #[XJ 7,.string s,.string nm,XJ num,.string tx,.slice ra rn rc]] w fun e w'=>e=.panicked [{v:=BS 6 ⟨#[]⟩ ⟨#[]⟩,recovered:=false}]/\Xz w w':=by
 obtain⟨W,hW⟩:∃W,W=((w.alloc (.cells #[XJ 7,.string s,.string nm,XJ num,.string tx,.slice ra rn rc] 77)).alloc (.cells #[XK,XK,XK,XK,XK,XN,XN,XN,XM,XK,XM,XM] 30)).alloc (.cells #[XK,XK,XK,XK,XK,XN,XN,XN,XM,XK,XM,XM] 30):=⟨_,rfl⟩;have hB:=(Bp hW).1;have e0:W.cell? (XL (w.heap.size) 0)=some (XJ 7):=by rw[hW];simp[go_sem]
 have e1:W.cell? (XL (w.heap.size) 1)=some (.string s):=by rw[hW];simp[go_sem]
 have HD:Hid _:=hd.below hB;have HW:Hid _:=hW;clear hW hd;go_enter func139,ntmps139;go_upto_region 2 with fail;rw[←HW.o];clear HW;go_wp2_with fail;refine(QQ base d m O P L wd now given births ks ps ls s W HD.o zE hp hl zC zA).mono ?_;rintro e w1 ⟨rfl,zB⟩;exact⟨rfl,rfl,hB.trans (zB.mono hB.size)⟩
theorem Nd (base d m:Nat) (O P L:Value) (wd now given births:Int) (ks:List Kd) (ps:List Pd) (ls:List Ld) (s:ByteArray) (w:World) (hd:Dr w base d m O P L wd now given births ks ps ls) (zB:∀k∈ks,(k.sum.size:Int)=wd) (zA:¬Au ks s):
 Calls prog 174 #[.pointer (some ⟨d,0,none⟩),.string s] w fun e w'=>e=.panicked [{v:=BS 2 ⟨#[]⟩ ⟨#[]⟩,recovered:=false}]/\Xz w w':=by
 have HN:Hid _:=IJ base d m O P L wd now given births ks ps ls s w hd zB zA;clear hd zB zA;go_enter func174,ntmps174;go_wp2_with fail;refine Calls.mono HN.o ?_;rintro e w1 ⟨rfl,zC⟩;go_wp2;exact⟨rfl,rfl,zC⟩
theorem Ie (base d m:Nat) (O P L:Value) (wd now given births:Int) (ks:List Kd) (ps:List Pd) (ls:List Ld) (s nm tx:ByteArray) (num:Int) (ra:Option Addr) (rn rc:Nat) (w:World) (hd:Dr w base d m O P L wd now given births ks ps ls) (zC:∀k∈ks,(k.sum.size:Int)=wd) (zB:¬Au ks s):
 Calls prog 139 #[.pointer (some ⟨d,0,none⟩),.agg #[XJ 7,.string s,.string nm,XJ num,.string tx,.slice ra rn rc]] w fun e w'=>e=.panicked [{v:=BS 2 ⟨#[]⟩ ⟨#[]⟩,recovered:=false}]/\Xz w w':=by
 obtain⟨W,hW⟩:∃W,W=((w.alloc (.cells #[XJ 7,.string s,.string nm,XJ num,.string tx,.slice ra rn rc] 77)).alloc (.cells #[XK,XK,XK,XK,XK,XN,XN,XN,XM,XK,XM,XM] 30)).alloc (.cells #[XK,XK,XK,XK,XK,XN,XN,XN,XM,XK,XM,XM] 30):=⟨_,rfl⟩;have hB:=(Bp hW).1;have e0:W.cell? (XL (w.heap.size) 0)=some (XJ 7):=by rw[hW];simp[go_sem]
 have e1:W.cell? (XL (w.heap.size) 1)=some (.string s):=by rw[hW];simp[go_sem]
 have HD:Hid _:=hd.below hB;have HW:Hid _:=hW;clear hW hd;go_enter func139,ntmps139;go_upto_region 2 with fail;rw[←HW.o];clear HW;go_wp2_with fail;refine(Nd base d m O P L wd now given births ks ps ls s W HD.o zC zB).mono ?_;rintro e w1 ⟨rfl,zA⟩;exact⟨rfl,rfl,hB.trans (zA.mono hB.size)⟩
theorem Wn {xs:List ByteArray} (h:∀(j:Nat) p q,xs[j]?=some p->xs[j+1]?=some q->less p q=true):xs.Pairwise (fun a b=>less a b=true):=by
 have hd:∀(d i:Nat) u v,xs[i]?=some u->xs[i+d+1]?=some v->less u v=true:=by
  intro d;induction d with
  |zero=>intro i u v hu hv;exact h i u v hu hv
  |succ d ih=>
   intro i u v hu hv;have zA:=(XC hv).1;have hm:xs[i+d+1]?=some xs[i+d+1]:=XD (by omega);exact Cl (ih i u _ hu hm) (h _ _ _ hm (by rw[show i+d+1+1=i+(d+1)+1 by omega];exact hv))
 rw[List.pairwise_iff_getElem];intro i j hi hj zB;exact hd (j -i -1) i _ _ (XD hi) (by rw[show i+(j -i -1)+1=j by omega];exact XD hj)
theorem NT {xs:List ByteArray} (h:xs.Pairwise (fun a b=>less a b=true)):xs.Nodup:=by
 refine List.Pairwise.imp ?_ h;intro a b zA e;rw[e,BX] at zA;cases zA
theorem RJ {wd:Int} {ss:List ByteArray} (h:Da wd ss=true):ss.Pairwise (fun a b=>less a b=true):=by
 refine Wn (fun j p q hp hq=> ?_);have hl:=(XC hq).1;unfold Da at h;rw[List.all_eq_true] at h;have:=h (j+1) (by simpa using hl);rw[Dq hq hp] at this;simp at this;exact this.2
structure Rs where
 sm:ByteArray
 le:Int
 now:Int
 given:Int
 births:Int
 ks:List Kd
 ps:List Pd
 ls:List Ld
def Hl (wd now given births:Int) (ks:List Kd) (ps:List Pd) (ls:List Ld) (kd:Int) (s nm:ByteArray) (num:Int) (text:ByteArray) (refs:List ByteArray) (r:Rs):Prop:=
 (kd=1/\(∀r∈refs,Au ks r)/\ls.length<200/\given<1000000000/\∃ks1 births1,Cg wd births ks text refs ks1 births1/\r=⟨Bd text refs wd,given+1,now,given+1,births1,ks1,ps,ls++[⟨given+1,Bd text refs wd,now+num⟩]⟩)∨
 (kd=2/\Au ks s/\((∃x∈ps,x.name=nm)∨ps.length<100)/\r=⟨⟨#[]⟩,0,now,given,births,ks,Bi ps nm s,ls⟩)∨
 (kd=3/\(∃x∈ps,x.name=nm)/\r=⟨⟨#[]⟩,0,now,given,births,ks,AV ps nm,ls⟩)∨
 (kd=4/\Au ks s/\ls.length<200/\given<1000000000/\r=⟨⟨#[]⟩,given+1,now,given+1,births,ks,ps,ls++[⟨given+1,s,now+num⟩]⟩)∨
 (kd=5/\(∃x∈ls,x.num=num)/\r=⟨⟨#[]⟩,0,now,given,births,ks,ps,Bk ls num⟩)∨
 (kd=6/\now+num<=1000000000/\r=⟨⟨#[]⟩,0,now+num,given,births,ks,ps,AG ls (now+num)⟩)∨
 (kd=7/\Au ks s/\¬JS ps ls ks s/\r=⟨⟨#[]⟩,0,now,given,births,Ef ks s,ps,ls⟩)
def Lp (wd now given births:Int) (ks:List Kd) (ps:List Pd) (ls:List Ld) (kd:Int) (s nm:ByteArray) (num:Int) (text:ByteArray) (refs:List ByteArray) (c:Int) (a b:ByteArray):Prop:=
 (kd=1/\Hd wd given births ks ls text refs c a b)∨
 (a=⟨#[]⟩/\b=⟨#[]⟩/\(
   (kd=2/\((¬Au ks s/\c=2)∨(Au ks s/\(¬∃x∈ps,x.name=nm)/\ps.length=100/\c=4)))∨
   (kd=3/\(¬∃x∈ps,x.name=nm)/\c=5)∨
   (kd=4/\((¬Au ks s/\c=2)∨(Au ks s/\(ls.length=200∨given=1000000000)/\c=4)))∨
   (kd=5/\(¬∃x∈ls,x.num=num)/\c=5)∨
   (kd=6/\1000000000<now+num/\c=4)∨
   (kd=7/\((¬Au ks s/\c=2)∨(Au ks s/\JS ps ls ks s/\c=6)))))
structure Ia (wd now given births:Int) (ks:List Kd) (ps:List Pd) (ls:List Ld) (kd num:Int) (text:ByteArray) (refs:List ByteArray):Prop where
 kso:EO wd ks
 w1:1<=wd
 np:ps.length<=100
 nl:ls.length<=200
 psort:ps.Pairwise (fun a b=>less a.name b.name=true)
 lsort:ls.Pairwise (fun a b=>a.num<b.num)
 now0:0<=now
 now1:now<=1000000000
 given0:0<=given
 given1:given<=1000000000
 births0:0<=births
 births1:births<=1000000000
 kd1:1<=kd
 kd7:kd<=7
 num0:0<=num
 num1:num<=1000000000
 txt:∀k∈ks,k.text.size<=maxLen
 txl:text.size<=maxLen
 rfn:refs.length<=1000
theorem Lq (text:ByteArray) (refs:List ByteArray) (wd:Int) (h:1<=wd):((Bd text refs wd).size:Int)=wd:=JF ⟨⟨#[]⟩,0,text,refs⟩ wd h
def RK (base d m:Nat) (wd:Int) (r:Rs) (w:World):Prop:=∃O P L,Dr w base d m O P L wd r.now r.given r.births r.ks r.ps r.ls
theorem PJ (base d m:Nat) (O P L:Value) (wd now given births:Int) (ks:List Kd) (ps:List Pd) (ls:List Ld) (kd:Int) (s nm:ByteArray) (num:Int) (text:ByteArray) (refs:List ByteArray) (ra:Option Addr) (rc:Nat) (w:World) (h:DU w base d m O P L wd now given births ks ps ls) (ha:Ia wd now given births ks ps ls kd num text refs) (hr:Du w base (vB d m O P L) ra refs):
 Calls prog 139 #[.pointer (some ⟨d,0,none⟩),.agg #[XJ kd,.string s,.string nm,XJ num,.string text,.slice ra refs.length rc]] w fun e w'=>(∃c a b,Lp wd now given births ks ps ls kd s nm num text refs c a b/\e=.panicked [{v:=BS c a b,recovered:=false}]/\Tn (vB d m O P L) w w')∨(∃sm le,e=.returned (.agg #[XK,XK,XK,XK,XK,XN,XN,XN,.string sm,XJ le,XM,XM])/\(∃r,Hl wd now given births ks ps ls kd s nm num text refs r/\r.sm=sm/\r.le=le/\RK base d m wd r w')/\Tn (vB d m O P L) w w'):=by
 have hP:∀b∈d::P.ownBlock.toList,b∈vB d m O P L:=by intro b hb;unfold vB;simp at hb ⊢;rcases hb with rfl|hb<;>simp[*]
 have hL:∀b∈d::L.ownBlock.toList,b∈vB d m O P L:=by intro b hb;unfold vB;simp at hb ⊢;rcases hb with rfl|hb<;>simp[*]
 have hD:∀X,Xz w X->DU X base d m O P L wd now given births ks ps ls:=fun X hX=>h.below hX;obtain rfl|rfl|rfl|rfl|rfl|rfl|rfl:kd=1∨kd=2∨kd=3∨kd=4∨kd=5∨kd=6∨kd=7:=by have:=ha.kd1;have:=ha.kd7;omega
 ·refine(LS base d m O P L wd now given births ks ps ls s nm text num refs ra rc w h ha.kso ha.w1 ha.txt (Lq _ _ _ ha.w1) ha.txl ha.rfn ha.births0 ha.births1 hr ha.nl ha.given0 ha.given1 ha.now0 ha.now1 ha.num0 ha.num1).mono ?_
  rintro e w' (⟨c,a,b,h1,rfl,ht⟩|⟨zE,births1,zB,hy,hl,hg,rfl,O',L',hd,ht⟩)
  ·exact .inl ⟨c,a,b,.inl ⟨rfl,h1⟩,rfl,ht⟩
  ·exact .inr ⟨_,_,rfl,⟨_,.inl ⟨rfl,zB,hl,hg,zE,births1,hy,rfl⟩,rfl,rfl,⟨_,_,_,hd.dr⟩⟩,ht⟩
 ·by_cases hth:Au ks s
  ·by_cases hroom:(∃x∈ps,x.name=nm)∨ps.length<100
   ·refine(LW base d m O P L wd now given births ks ps ls s nm text num ra refs.length rc w h ha.kso.sz hth ha.np ha.psort hroom).mono ?_
    rintro e w' ⟨rfl,P',hd,ht⟩;exact .inr ⟨_,_,rfl,⟨_,.inr (.inl ⟨rfl,hth,hroom,rfl⟩),rfl,rfl,⟨_,_,_,hd.dr⟩⟩,ht.mono hP⟩
   ·have zC:¬∃x∈ps,x.name=nm:=fun e=>hroom (.inl e)
    have zA:ps.length=100:=by have:=ha.np;have h2:¬ps.length<100:=fun e=>hroom (.inr e);omega
    refine(Is d s nm text num ra refs.length rc 4 ⟨#[]⟩ ⟨#[]⟩ w (fun X hX=>SZ base d m O P L wd now given births ks ps ls nm s X (hD X hX) ha.kso.sz hth zA ha.psort zC)).mono ?_;rintro e w' ⟨rfl,hb⟩;exact .inl ⟨4,_,_,.inr ⟨rfl,rfl,.inl ⟨rfl,.inr ⟨hth,zC,zA,rfl⟩⟩⟩,rfl,Tn.of hb⟩
  ·refine(Is d s nm text num ra refs.length rc 2 ⟨#[]⟩ ⟨#[]⟩ w (fun X hX=>NK base d m O P L wd now given births ks ps ls nm s X (hD X hX) ha.kso.sz hth)).mono ?_
   rintro e w' ⟨rfl,hb⟩;exact .inl ⟨2,_,_,.inr ⟨rfl,rfl,.inl ⟨rfl,.inl ⟨hth,rfl⟩⟩⟩,rfl,Tn.of hb⟩
 ·by_cases hth:∃x∈ps,x.name=nm
  ·refine(JV base d m O P L wd now given births ks ps ls s nm text num ra refs.length rc w h (by have:=ha.np;omega) ha.psort hth).mono ?_
   rintro e w' ⟨rfl,P',hd,ht⟩;exact .inr ⟨_,_,rfl,⟨_,.inr (.inr (.inl ⟨rfl,hth,rfl⟩)),rfl,rfl,⟨_,_,_,hd.dr⟩⟩,ht.mono hP⟩
  ·refine(KC d s nm text num ra refs.length rc 5 ⟨#[]⟩ ⟨#[]⟩ w (fun X hX=>SW base d m O P L wd now given births ks ps ls nm X (hD X hX) (by have:=ha.np;omega) ha.psort hth)).mono ?_
   rintro e w' ⟨rfl,hb⟩;exact .inl ⟨5,_,_,.inr ⟨rfl,rfl,.inr (.inl ⟨rfl,hth,rfl⟩)⟩,rfl,Tn.of hb⟩
 ·by_cases hth:Au ks s
  ·by_cases zA:ls.length=200∨given=1000000000
   ·refine(GV d s nm text num ra refs.length rc 4 ⟨#[]⟩ ⟨#[]⟩ w (fun X hX=>Lm base d m O P L wd now given births ks ps ls s num X (hD X hX) ha.kso.sz hth zA)).mono ?_
    rintro e w' ⟨rfl,hb⟩;exact .inl ⟨4,_,_,.inr ⟨rfl,rfl,.inr (.inr (.inl ⟨rfl,.inr ⟨hth,zA,rfl⟩⟩))⟩,rfl,Tn.of hb⟩
   ·have hl:ls.length<200:=by have:=ha.nl;omega
    have hg:given<1000000000:=by have:=ha.given1;omega
    refine(JW base d m O P L wd now given births ks ps ls s nm text num ra refs.length rc w h ha.kso.sz hth hl ha.given0 hg ha.now0 ha.now1 ha.num0 ha.num1).mono ?_;rintro e w' ⟨rfl,L',hd,ht⟩;exact .inr ⟨_,_,rfl,⟨_,.inr (.inr (.inr (.inl ⟨rfl,hth,hl,hg,rfl⟩))),rfl,rfl,⟨_,_,_,hd.dr⟩⟩,ht.mono hL⟩
  ·refine(GV d s nm text num ra refs.length rc 2 ⟨#[]⟩ ⟨#[]⟩ w (fun X hX=>MN base d m O P L wd now given births ks ps ls s num X (hD X hX) ha.kso.sz hth)).mono ?_
   rintro e w' ⟨rfl,hb⟩;exact .inl ⟨2,_,_,.inr ⟨rfl,rfl,.inr (.inr (.inl ⟨rfl,.inl ⟨hth,rfl⟩⟩))⟩,rfl,Tn.of hb⟩
 ·by_cases hth:∃x∈ls,x.num=num
  ·refine(Kz base d m O P L wd now given births ks ps ls s nm text num ra refs.length rc w h ha.nl ha.lsort hth).mono ?_
   rintro e w' ⟨rfl,L',hd,ht⟩;exact .inr ⟨_,_,rfl,⟨_,.inr (.inr (.inr (.inr (.inl ⟨rfl,hth,rfl⟩)))),rfl,rfl,⟨_,_,_,hd.dr⟩⟩,ht.mono hL⟩
  ·refine(LL d s nm text num ra refs.length rc 5 ⟨#[]⟩ ⟨#[]⟩ w (fun X hX=>UH base d m O P L wd now given births ks ps ls num X (hD X hX) ha.nl ha.lsort hth)).mono ?_
   rintro e w' ⟨rfl,hb⟩;exact .inl ⟨5,_,_,.inr ⟨rfl,rfl,.inr (.inr (.inr (.inl ⟨rfl,hth,rfl⟩)))⟩,rfl,Tn.of hb⟩
 ·by_cases hs:now+num<=1000000000
  ·refine(KB base d m O P L wd now given births ks ps ls s nm text num ra refs.length rc w h ha.nl ha.now0 ha.num0 hs).mono ?_
   rintro e w' ⟨rfl,L',hd,ht⟩;exact .inr ⟨_,_,rfl,⟨_,.inr (.inr (.inr (.inr (.inr (.inl ⟨rfl,hs,rfl⟩))))),rfl,rfl,⟨_,_,_,hd.dr⟩⟩,ht.mono hL⟩
  ·refine(LM d s nm text num ra refs.length rc 4 ⟨#[]⟩ ⟨#[]⟩ w (fun X hX=>Rc base d m O P L wd now given births ks ps ls num X (hD X hX) ha.now0 ha.now1 ha.num0 ha.num1 (by omega))).mono ?_
   rintro e w' ⟨rfl,hb⟩;exact .inl ⟨4,_,_,.inr ⟨rfl,rfl,.inr (.inr (.inr (.inr (.inl ⟨rfl,by omega,rfl⟩))))⟩,rfl,Tn.of hb⟩
 ·by_cases hth:Au ks s
  ·by_cases huse:JS ps ls ks s
   ·refine(Jr base d m O P L wd now given births ks ps ls s nm text num ra refs.length rc w h.dr ha.kso ha.np ha.nl hth huse).mono ?_
    rintro e w' ⟨rfl,hb⟩;exact .inl ⟨6,_,_,.inr ⟨rfl,rfl,.inr (.inr (.inr (.inr (.inr ⟨rfl,.inr ⟨hth,huse,rfl⟩⟩))))⟩,rfl,Tn.of hb⟩
   ·refine(Ke base d m O P L wd now given births ks ps ls s nm text num ra refs.length rc w h.dr ha.kso ha.np ha.nl hth huse).mono ?_
    rintro e w' ⟨rfl,O',hd,_,ht⟩;exact .inr ⟨_,_,rfl,⟨_,.inr (.inr (.inr (.inr (.inr (.inr ⟨rfl,hth,huse,rfl⟩))))),rfl,rfl,⟨_,_,_,hd⟩⟩,ht⟩
  ·refine(Ie base d m O P L wd now given births ks ps ls s nm text num ra refs.length rc w h.dr ha.kso.sz hth).mono ?_
   rintro e w' ⟨rfl,hb⟩;exact .inl ⟨2,_,_,.inr ⟨rfl,rfl,.inr (.inr (.inr (.inr (.inr ⟨rfl,.inl ⟨hth,rfl⟩⟩))))⟩,rfl,Tn.of hb⟩
section
section
variable {wd now given births:Int} {ks:List Kd} {ps:List Pd} {ls:List Ld}
theorem Lr {kd:Int} {s nm:ByteArray} {num:Int} {text:ByteArray} {refs:List ByteArray} (h:Cs kd s nm num text refs wd=true):1<=kd/\kd<=7/\Ue kd.toNat s nm num text refs wd:=by
 unfold Cs at h;simp only[Bool.and_eq_true,decide_eq_true_eq] at h;exact⟨h.1.1,h.1.2,Fw h.2⟩
theorem Tr {kd:Int} {s nm:ByteArray} {num:Int} {text:ByteArray} {refs:List ByteArray} (h:Cs kd s nm num text refs wd=true):refs.length<=30:=by
 unfold Cs at h;simp only[Bool.and_eq_true,decide_eq_true_eq] at h;have h2:=h.2;unfold CD at h2;simp only[Bool.and_eq_true,decide_eq_true_eq] at h2;have h3:=h2.2.2.2.2;unfold GN at h3;split at h3
 ·exact(Cq h3).refs
 ·have h4:=(of_decide_eq_true h3).2
  omega
theorem RL (ks:List Kd) (x:Kd):(Dh ks x).Perm (x::ks):=by
 unfold Dh;have h1:(ks.filter (fun k=>less k.sum x.sum)++ks.filter (fun k=> !(less k.sum x.sum))).Perm ks:=List.filter_append_perm _ _;rw[List.append_assoc];exact(List.perm_middle (a:=x) (l₁:=ks.filter (fun k=>less k.sum x.sum)) (l₂:=ks.filter (fun k=> !(less k.sum x.sum)))).trans (h1.cons x)
theorem Ja (ps:List Pd) (n s:ByteArray):(Bi ps n s).length<=ps.length+1/\((∃x∈ps,x.name=n)->(Bi ps n s).length<=ps.length):=by
 have h:∀(l:List Pd),(l.filter (fun x=>less x.name n)).length+(l.filter (fun x=> !(less x.name n)&& !decide (x.name=n))).length+(l.filter (fun x=>decide (x.name=n))).length=l.length:=by
  intro l;induction l with
  |nil=>rfl
  |cons x l ih=>
   by_cases hn:x.name=n
   ·simp[hn,BX]
    omega
   ·cases hl:less x.name n<;>simp[hl,hn]<;>omega
 have h1:=h ps;unfold Bi;rw[List.length_append,List.length_append];refine⟨by simp;omega,fun⟨x,hx,hxn⟩=> ?_⟩;have h2:0<(ps.filter (fun x=>decide (x.name=n))).length:=List.length_pos_of_mem (List.mem_filter.2 ⟨hx,by simpa using hxn⟩);simp;omega
structure Xm (wd:Int) (r:Rs):Prop where
 nd:(r.ks.map (·.sum)).Nodup
 sz:∀k∈r.ks,(k.sum.size:Int)=wd
 nk:r.ks.length<=600
 np:r.ps.length<=100
 nl:r.ls.length<=200
 refs:∀k∈r.ks,k.refs.length<=30
end
theorem Lp.code {wd now given births:Int} {ks:List Kd} {ps:List Pd} {ls:List Ld} {kd:Int} {s nm:ByteArray} {num:Int} {text:ByteArray} {refs:List ByteArray} {c:Int} {a b:ByteArray} (h:Lp wd now given births ks ps ls kd s nm num text refs c a b):2<=c/\c<=6:=by
 rcases h with⟨_,⟨_,rfl,_⟩|⟨_,⟨_,_,_,_,rfl,_⟩|⟨_,_,rfl,_⟩|⟨_,_,rfl,_⟩⟩⟩|⟨_,_,⟨_,⟨_,rfl⟩|⟨_,_,_,rfl⟩⟩|⟨_,_,rfl⟩|⟨_,⟨_,rfl⟩|⟨_,_,rfl⟩⟩|⟨_,_,rfl⟩|⟨_,_,rfl⟩|⟨_,⟨_,rfl⟩|⟨_,_,rfl⟩⟩⟩<;>omega
theorem Dr.notin {w:World} {base d m:Nat} {O P L:Value} {wd now given births:Int} {ks:List Kd} {ps:List Pd} {ls:List Ld} (h:Dr w base d m O P L wd now given births ks ps ls) {R:Nat} {zB:Array Value} (hR:w.heap[R]?=some (.cells zB 30)) (hd:R≠d):R∉vB d m O P L:=by
 unfold vB;simp only[List.mem_cons,List.mem_append,Option.mem_toList,not_or];refine⟨hd,?_,?_,?_,?_⟩
 ·rintro rfl
  obtain⟨n,f,_,hM,_⟩:=h.map;obtain⟨D,⟨es,clock,zA,_⟩,_⟩:=hM;rw[hR] at zA;cases zA
 ·intro e
  obtain⟨c,hc⟩:=Cd h.ord e;rw[hR] at hc;simp at hc
 ·intro e
  obtain⟨c,hc⟩:=Cd h.pin e;rw[hR] at hc;simp at hc
 ·intro e
  obtain⟨c,hc⟩:=Cd h.lea e;rw[hR] at hc;simp at hc
theorem RK.stays {base d m:Nat} {wd:Int} {r:Rs} {w w':World} {R:Nat} {zA:Array Value} (h:RK base d m wd r w) (hR:w.heap[R]?=some (.cells zA 30)) (hb:base<=R) (hd:R≠d) (ht:Tn [R] w w'):RK base d m wd r w':=by
 obtain⟨O,P,L,hD⟩:=h;exact⟨O,P,L,hD.apart ht hb (hD.notin hR hd) (fun c fz e=>by rw[hR] at e;simp at e)⟩
end
section
open Go.Proofs
theorem Fm {a b:ByteArray} (h:a.toList=b.toList):a=b:=by
 rw[Lib.toList_data,Lib.toList_data] at h;cases a;cases b;simpa using h
theorem Nf {a b:ByteArray}:less a b=true↔a.toList<b.toList:=by
 unfold less;rw[bytesLess_eq,decide_eq_true_iff]
theorem Ng {a b:ByteArray} (h:less a b=false) (zA:a≠b):less b a=true:=by
 rw[Nf];have h1:¬a.toList<b.toList:=fun e=>by rw[Nf.2 e] at h;cases h
 have h2:=List.not_lt.1 h1;by_cases e:b.toList<a.toList
 ·exact e
 ·exact absurd (Fm (Std.le_antisymm (List.not_lt.1 e) h2)) zA
end
section
structure FK (wd now given births:Int) (ks:List Kd) (ps:List Pd) (ls:List Ld):Prop where
 kso:EO wd ks
 w1:1<=wd
 np:ps.length<=100
 nl:ls.length<=200
 psort:ps.Pairwise (fun a b=>less a.name b.name=true)
 lsort:ls.Pairwise (fun a b=>a.num<b.num)
 now0:0<=now
 now1:now<=1000000000
 given0:0<=given
 given1:given<=1000000000
 births0:0<=births
 births1:births<=1000000000
 txt:∀k∈ks,k.text.size<=2000
 r30:∀k∈ks,k.refs.length<=30
 lnum:∀x∈ls,x.num<=given
theorem FK.zero {wd:Int} (h1:1<=wd) (h8:wd<=8):FK wd 0 0 0 [] [] []:=
 ⟨⟨by simp,by simp,by simp,by intro k hk;simp at hk,by simp,h8⟩,h1,by simp,by simp,by simp,by simp,by omega,by omega,by omega,by omega,by omega,by omega,by simp,by simp,by simp⟩
section
variable {wd now given births:Int} {ks:List Kd} {ps:List Pd} {ls:List Ld} {kd:Int} {s nm:ByteArray} {num:Int} {text:ByteArray} {refs:List ByteArray}
theorem FK.aok (h:FK wd now given births ks ps ls) (he:Cs kd s nm num text refs wd=true) (ht:text.size<=maxLen):Ia wd now given births ks ps ls kd num text refs:=by
 obtain⟨k1,k7,e⟩:=Lr he;exact⟨h.kso,h.w1,h.np,h.nl,h.psort,h.lsort,h.now0,h.now1,h.given0,h.given1,h.births0,h.births1,k1,k7,e.n0,e.n1,fun k hk=>by have:=h.txt k hk;unfold maxLen;omega,ht,by have:=Tr he;omega⟩
theorem Nh (h:Cs kd s nm num text refs wd=true):text.size<=2000:=by
 unfold Cs at h;simp only[Bool.and_eq_true,decide_eq_true_eq] at h;have h2:=h.2;unfold CD at h2;simp only[Bool.and_eq_true,decide_eq_true_eq] at h2;have h3:=h2.2.2.2.2;unfold GN at h3;split at h3
 ·exact(Cq h3).text
 ·have h4:=(of_decide_eq_true h3).1
  omega
theorem NU {ps:List Pd} (n s:ByteArray) (h:ps.Pairwise (fun a b=>less a.name b.name=true)):(Bi ps n s).Pairwise (fun a b=>less a.name b.name=true):=by
 unfold Bi;rw[List.pairwise_append,List.pairwise_append];have zA:∀y∈ps.filter (fun x=> !(less x.name n)&& !decide (x.name=n)),less n y.name=true:=fun y hy=>by
  have h2:=(List.mem_filter.1 hy).2;simp only[Bool.and_eq_true,Bool.not_eq_true',decide_eq_false_iff_not] at h2;exact Ng h2.1 h2.2
 refine⟨⟨h.filter _,by simp,fun x hx y hy=> ?_⟩,h.filter _,fun x hx y hy=> ?_⟩
 ·rw[List.mem_singleton] at hy
  subst hy;exact(List.mem_filter.1 hx).2
 ·rcases List.mem_append.1 hx with hx|hx
  ·exact Cl (List.mem_filter.1 hx).2 (zA y hy)
  ·rw[List.mem_singleton] at hx
   subst hx;exact zA y hy
theorem NV {ks:List Kd} {x:Kd} (h:(ks.map (·.sum)).Pairwise (fun a b=>less a b=true)) (zB:¬Au ks x.sum):((Dh ks x).map (·.sum)).Pairwise (fun a b=>less a b=true):=by
 rw[List.pairwise_map] at h ⊢;unfold Dh;rw[List.pairwise_append,List.pairwise_append];have zA:∀y∈ks.filter (fun k=> !(less k.sum x.sum)),less x.sum y.sum=true:=fun y hy=>by
  obtain⟨h1,h2⟩:=List.mem_filter.1 hy;simp only[Bool.not_eq_true'] at h2;exact Ng h2 (fun e=>zB ⟨y,h1,e⟩)
 refine⟨⟨h.filter _,by simp,fun y hy z hz=> ?_⟩,h.filter _,fun y hy z hz=> ?_⟩
 ·rw[List.mem_singleton] at hz
  subst hz;exact(List.mem_filter.1 hy).2
 ·rcases List.mem_append.1 hy with hy|hy
  ·exact Cl (List.mem_filter.1 hy).2 (zA z hz)
  ·rw[List.mem_singleton] at hy
   subst hy;exact zA z hz
theorem EO.drop (h:EO wd ks) (t:ByteArray):EO wd (Ef ks t):=by
 have zA:(Ef ks t).Sublist ks:=List.filter_sublist;exact⟨h.nd.sublist (zA.map _),h.sorted.sublist (zA.map _),fun k hk=>h.sz k (zA.subset hk),fun k hk=>h.refs k (zA.subset hk),XI zA.length_le h.len,h.w8⟩
theorem FK.step (h:FK wd now given births ks ps ls) (he:Cs kd s nm num text refs wd=true) {r:Rs} (hy:Hl wd now given births ks ps ls kd s nm num text refs r):FK wd r.now r.given r.births r.ks r.ps r.ls:=by
 obtain⟨k1,k7,e⟩:=Lr he;have zK:=e.n0;have zN:=e.n1;have zC:∀x:Ld,x.num=given+1->(ls++[x]).Pairwise (fun a b=>a.num<b.num)/\∀y∈ls++[x],y.num<=given+1:=fun x hx=>by
  refine⟨?_,fun y hy=> ?_⟩
  ·rw[List.pairwise_append]
   refine⟨h.lsort,by simp,fun y hy z hz=> ?_⟩;rw[List.mem_singleton] at hz;subst hz;have:=h.lnum y hy;omega
  ·rcases List.mem_append.1 hy with hy|hy
   ·have:=h.lnum y hy
    omega
   ·rw[List.mem_singleton] at hy
    subst hy;omega
 rcases hy with⟨rfl,_,hl,hg,zO,b1,hy,rfl⟩|⟨_,_,zB,rfl⟩|⟨_,_,rfl⟩|⟨_,_,hl,hg,rfl⟩|⟨_,_,rfl⟩|⟨_,ht,rfl⟩|⟨_,_,_,rfl⟩
 ·have zF:(ls++[(⟨given+1,Bd text refs wd,now+num⟩:Ld)]).length<=200:=by simp;omega
  have hL:=zC ⟨given+1,Bd text refs wd,now+num⟩ rfl;have zJ:=h.given0;have zE:=Cq (e.thing rfl);rcases hy with⟨_,_,_,_,rfl,rfl⟩|⟨zI,zM,hb,rfl,rfl⟩
  ·exact⟨h.kso,h.w1,h.np,zF,h.psort,hL.1,h.now0,h.now1,by show 0<=given+1;omega,by show given+1<=_;omega,h.births0,h.births1,h.txt,h.r30,hL.2⟩
  ·have hp:=RL ks ⟨Bd text refs wd,births+1,text,refs⟩
   have zP:=h.births0;have zA:∀k∈Dh ks ⟨Bd text refs wd,births+1,text,refs⟩,k=⟨Bd text refs wd,births+1,text,refs⟩∨k∈ks:=fun k hk=>List.mem_cons.1 (hp.mem_iff.1 hk);have zH:EO wd (Dh ks ⟨Bd text refs wd,births+1,text,refs⟩):=by
    have hs:=NV (x:=⟨Bd text refs wd,births+1,text,refs⟩) h.kso.sorted zI;refine⟨NT hs,hs,fun k hk=> ?_,fun k hk=> ?_,by rw[MP];omega,h.kso.w8⟩
    ·rcases zA k hk with rfl|hk
     ·exact Lq _ _ _ h.w1
     ·exact h.kso.sz k hk
    ·rcases zA k hk with rfl|hk
     ·exact⟨by have:=zE.refs;show refs.length<=_;omega,RJ zE.all⟩
     ·exact h.kso.refs k hk
   refine⟨zH,h.w1,h.np,zF,h.psort,hL.1,h.now0,h.now1,by show 0<=given+1;omega,by show given+1<=_;omega,by show 0<=births+1;omega,by show births+1<=_;omega,fun k hk=> ?_,fun k hk=> ?_,hL.2⟩
   ·rcases zA k hk with rfl|hk
    ·exact zE.text
    ·exact h.txt k hk
   ·rcases zA k hk with rfl|hk
    ·exact zE.refs
    ·exact h.r30 k hk
 ·have zG:=Ja ps nm s
  refine⟨h.kso,h.w1,?_,h.nl,NU nm s h.psort,h.lsort,h.now0,h.now1,h.given0,h.given1,h.births0,h.births1,h.txt,h.r30,h.lnum⟩;rcases zB with zB|zB
  ·exact XI (zG.2 zB) h.np
  ·exact XI zG.1 (by omega)
 ·exact⟨h.kso,h.w1,XI (List.length_filter_le _ _) h.np,h.nl,h.psort.filter _,h.lsort,h.now0,h.now1,h.given0,h.given1,h.births0,h.births1,h.txt,h.r30,h.lnum⟩
 ·have hL:=zC ⟨given+1,s,now+num⟩ rfl
  have zJ:=h.given0;exact⟨h.kso,h.w1,h.np,by simp;omega,h.psort,hL.1,h.now0,h.now1,by show 0<=given+1;omega,by show given+1<=_;omega,h.births0,h.births1,h.txt,h.r30,hL.2⟩
 ·exact⟨h.kso,h.w1,h.np,XI (List.length_filter_le _ _) h.nl,h.psort,h.lsort.filter _,h.now0,h.now1,h.given0,h.given1,h.births0,h.births1,h.txt,h.r30,fun x hx=>h.lnum x (List.mem_filter.1 hx).1⟩
 ·have:=h.now0
  exact⟨h.kso,h.w1,h.np,XI (List.length_filter_le _ _) h.nl,h.psort,h.lsort.filter _,by show 0<=now+num;omega,ht,h.given0,h.given1,h.births0,h.births1,h.txt,h.r30,fun x hx=>h.lnum x (List.mem_filter.1 hx).1⟩
 ·exact⟨h.kso.drop s,h.w1,h.np,h.nl,h.psort,h.lsort,h.now0,h.now1,h.given0,h.given1,h.births0,h.births1,fun k hk=>h.txt k (List.mem_filter.1 hk).1,fun k hk=>h.r30 k (List.mem_filter.1 hk).1,h.lnum⟩
end
end
theorem VM (k:Int) (sum name:ByteArray) (n:Int) (t:ByteArray) (ad:Option Addr) (cap:Nat) (ss:List ByteArray) (wd:Int) (w:World)
 (zB:Ae w w.heap.size ad ss) (hl:ss.length<=1048576) (ht:t.size<=maxLen) (hn:name.size<=maxLen):
 Calls prog 84 #[.agg (Fi k sum name n t ad ss.length cap),XJ wd] w fun e w'=>e=.returned (.string (DE k sum name n t ss wd))/\Xz w w':=by
 cases hok:Cs k sum name n t ss wd with
 |true=>
  rw[show DE k sum name n t ss wd=⟨(DT k.toNat sum name n t ss).toArray⟩ from by unfold DE;rw[if_pos hok]];unfold Cs at hok;simp only[Bool.and_eq_true,decide_eq_true_eq] at hok;obtain⟨m,rfl⟩:∃m:Nat,k=m:=⟨k.toNat,by omega⟩;rw[Int.toNat_natCast] at hok ⊢;exact Rk m sum name n t ad cap ss wd w (by omega) (by omega) zB hl ht hok.2
 |false=>
  rw[show DE k sum name n t ss wd=ByteArray.empty from by unfold DE;rw[if_neg (by rw[hok];decide)]];have zC:Below w.heap.size w (w.alloc (.cells (Fi k sum name n t ad ss.length cap) 77)):=XA;have zA:=VA k sum name n t ad cap ss wd _ (zB.below' zC) hl ht hn;rw[hok] at zA;clear hok;go_enter func84,ntmps84;go_wp2_with fail;refine zA.mono ?_;rintro e w1 ⟨rfl,zE⟩;go_wp2;go_ret
  exact⟨rfl,zC.trans (zE.mono (by simp))⟩
def DX (k:Int):Bool:=decide (1<=k/\k<=7)
def Eh (k:Int):Bool:=DX k&&CS k.toNat
def Dj (k:Int):Bool:=DX k&&Di k.toNat
def Cp (k:Int):Bool:=DX k&&Cx k.toNat
def Ei (k:Int):Int:=if DX k=true then Co k.toNat else 0
theorem NW (k:Int) (w:World) (hT:Ka w):
 Calls prog 160 #[XJ k] w fun e w'=>e=.returned (.tuple #[.agg #[.bool (Eh k),.bool (Dj k),.bool (Cp k),XJ (Ei k)],.bool (DX k)])/\Xz w w':=by
 by_cases hk:1<=k/\k<=7
 ·obtain⟨m,rfl⟩:∃m:Nat,k=m:=⟨k.toNat,by omega⟩
  have hi:DX (m:Int)=true:=decide_eq_true hk;rw[show Eh (m:Int)=CS m by simp[Eh,hi],show Dj (m:Int)=Di m by simp[Dj,hi],show Cp (m:Int)=Cx m by simp[Cp,hi],show Ei (m:Int)=Co m by simp[Ei,hi],hi];exact IX m w hT (by omega) (by omega)
 ·have hi:DX k=false:=decide_eq_false hk
  rw[show Eh k=false by simp[Eh,hi],show Dj k=false by simp[Dj,hi],show Cp k=false by simp[Cp,hi],show Ei k=0 by simp[Ei,hi],hi];exact Kb k w hk
theorem Ts (n:Int) (w:World):
 Calls prog 44 #[XJ n] w fun e w'=>e=.returned (.bool (decide (1<=n/\n<=8)))/\w'=w:=by
 by_cases h1:1<=n
 ·by_cases h2:n<=8
  ·go_enter func44,ntmps44
   go_wp2;go_ret;exact⟨Ao (by simp[h1,h2]),rfl⟩
  ·have zA:decide (n<=8)=false:=by simpa using h2
   go_enter func44,ntmps44;go_wp2;go_ret;exact⟨rfl,rfl⟩
 ·have zB:decide (1<=n)=false:=by simpa using h1
  go_enter func44,ntmps44;go_wp2;go_ret;exact⟨rfl,rfl⟩
def FI (wd:Int):Bool:= !decide (1<=wd/\wd<=8)
def DI (s:ByteArray) (wd:Int):ByteArray×ByteArray×Bool:=Ba s (FI wd) (1:Nat)
def AJ (s:ByteArray) (wd:Int):Int:=Ct (DI s wd).1.data.toList
def EU (s:ByteArray) (wd:Int):Bool:=(DI s wd).2.2|| !DX (AJ s wd)
def Dz (s:ByteArray) (wd:Int):ByteArray×ByteArray×Bool:=Ba (DI s wd).2.1 (EU s wd) (4:Nat)
def Es (s:ByteArray) (wd:Int):Int:=Ct (Dz s wd).1.data.toList
def EA (s:ByteArray) (wd:Int):ByteArray×ByteArray×Bool:=Ba (Dz s wd).2.1 (Dz s wd).2.2 (1:Nat)
def Ls (s:ByteArray) (wd:Int):Int:=Ct (EA s wd).1.data.toList
def BF (s:ByteArray) (wd:Int):ByteArray×ByteArray×Bool:=Ba (EA s wd).2.1 (EA s wd).2.2 (Ls s wd)
def AZ (s:ByteArray) (wd:Int):ByteArray×ByteArray×Bool:=if Dj (AJ s wd)=true then Ba (BF s wd).2.1 (BF s wd).2.2 wd else (⟨#[]⟩,(BF s wd).2)
def AW (s:ByteArray) (wd:Int):ByteArray×List ByteArray:=if Cp (AJ s wd)=true then ((rd (Eo (AZ s wd).2.1 (AZ s wd).2.2) wd).1,(rd (Eo (AZ s wd).2.1 (AZ s wd).2.2) wd).2.1) else (⟨#[]⟩,[])
def Cz (s:ByteArray) (wd:Int):ByteArray×Bool:=if Cp (AJ s wd)=true then (Iy (AZ s wd).2.1 (AZ s wd).2.2,Fx (AZ s wd).2.1 (AZ s wd).2.2 wd) else (AZ s wd).2
def EV (s:ByteArray) (wd:Int):Bool:=(Cz s wd).2|| !decide ((Cz s wd).1.size=0)
def Iz (s:ByteArray) (wd:Int):Bool:=Cs (AJ s wd) (AZ s wd).1 (BF s wd).1 (Es s wd) (AW s wd).1 (AW s wd).2 wd
def Cu (s:ByteArray) (wd:Int):Bool:=EV s wd|| !Iz s wd
theorem EF {rest:ByteArray} {bad:Bool} {n:Int} (h:(Ba rest bad n).2.2=false):bad=false:=by
 unfold Ba at h;cases bad
 ·rfl
 ·simp at h
theorem OL (s:ByteArray) (wd:Int):(rd s wd).1.size<=s.size:=by
 unfold rd;split
 ·split
  ·exact Nat.zero_le _
  ·unfold IZ CX
   split
   ·simp;omega
   ·exact Nat.zero_le _
 ·exact Nat.zero_le _
theorem Ej (rest:ByteArray) (bad:Bool) (n:Int):(Ba rest bad n).1.size<=rest.size/\(Ba rest bad n).2.1.size<=rest.size:=by
 unfold Ba;split
 ·exact⟨Nat.zero_le _,XB⟩
 ·split
  ·exact⟨Nat.zero_le _,XB⟩
  ·simp;omega
structure EW (w W:World) (b:Nat) (rest:ByteArray) (kind:Int) (bad:Bool):Prop where
 rs:Dn W b rest kind bad
 env:Env W
 gr:w.grownBy W (some b)
 res:Aa W w.heap.size [XK,XM,XM,XK,XM,XN]
def Mi (b:Nat):Prop:=∀g∈[0,1,2,3,6,7,5,4],g<b
theorem EW.step {w W W':World} {b:Nat} {rest zA:ByteArray} {kind zB:Int} {bad zC:Bool} (h:EW w W b rest kind bad) (ha:Mi b) (hb:b<w.heap.size) (hr:Dn W' b zA zB zC) (hg:W.grownBy W' (some b)):EW w W' b zA zB zC:=
 ⟨hr,h.env.but hg ha,h.gr.trans hg,h.res.far hg hb⟩
theorem EW.below {w W W':World} {b:Nat} {rest:ByteArray} {kind:Int} {bad:Bool} (h:EW w W b rest kind bad) (hb:Xz W W'):EW w W' b rest kind bad:=
 ⟨h.rs.below hb,h.env.below hb,h.gr.trans (Ax _ hb),h.res.below hb⟩
theorem EW.set {w W:World} {b:Nat} {rest:ByteArray} {kind:Int} {bad:Bool} (h:EW w W b rest kind bad) (ha:Mi b) (hb:b<w.heap.size) (B j:Nat) (v:Value) (hB:w.heap.size<B):EW w (W.setCell (XL B j) v) b rest kind bad:=
 ⟨h.rs.far (Av W B j v) (by omega),h.env.but (Av W B j v) (fun g hg=>by have:=ha g hg;omega),h.gr.andThen (Av W B j v) (fun j' e=>by cases e;exact .inl (by omega)),h.res.far' (Av W B j v) (by omega)⟩
theorem PK (s:ByteArray) (wd:Int):0<=Ls s wd:=(Kc _).1
theorem Tt {s:ByteArray} {wd:Int} (h:(BF s wd).2.2=false):0<=wd:=by
 have h3:=EF h;have h2:=EF h3;have h1:=EF h2;unfold EU at h1;have h0:=EF (Bool.or_eq_false_iff.1 h1).1;unfold FI at h0;simp at h0;omega
theorem Vh {s:ByteArray} {wd:Int} (hs:s.size<=1048576):(BF s wd).1.size<=1048576/\(AZ s wd).2.1.size<=1048576/\(AW s wd).1.size<=1048576/\(Cz s wd).1.size<=1048576:=by
 have h1:=Ej s (FI wd) (1:Nat);have h2:=Ej (DI s wd).2.1 (EU s wd) (4:Nat);have h3:=Ej (Dz s wd).2.1 (Dz s wd).2.2 (1:Nat);have h4:=Ej (EA s wd).2.1 (EA s wd).2.2 (Ls s wd);have h5:=Ej (BF s wd).2.1 (BF s wd).2.2 wd;have k1:=XI h1.2 hs;have k2:=XI h2.2 k1;have k3:=XI h3.2 k2;have k4:=XI h4.2 k3;have zA:=XI h4.1 k3;have k5:(AZ s wd).2.1.size<=1048576:=by
  unfold AZ;split
  ·exact XI h5.2 k4
  ·exact k4
 refine⟨zA,k5,?_,?_⟩
 ·unfold AW
  split
  ·exact XI (OL _ _) (OK k5)
  ·exact Nat.zero_le _
 ·unfold Cz
  split
  ·exact XI (Ej _ _ _).2 k5
  ·exact k5
theorem Tu (s:ByteArray) (wd:Int):(AW s wd).2.length<=255:=by
 unfold AW;split
 ·exact Uh _ _
 ·exact Nat.zero_le _
theorem EW.lt {w W:World} {b:Nat} {rest:ByteArray} {kind:Int} {bad:Bool} (h:EW w W b rest kind bad):w.heap.size<W.heap.size:=h.res.lt
end Go.Proofs.YtpekbmegopfhfaaGreatDoor
