import Derived.Test.YtflhhhnlhlaehaaGreatDoorC26
set_option maxRecDepth 100000
set_option maxHeartbeats 16000000
namespace Go.Proofs.YtflhhhnlhlaehaaGreatDoor
open Go.ChangeShapes Go.WideShapes Go.ChangeAt Go.RowKit _root_.Go.Proofs.Tryz
section
open Go.MuLone Go.ChangeShapes Go.WideShapes Go.ChangeAt Go.RowKit
theorem SQ {w:World} {base d m:Nat} {O P L:Value} {wd now given births:Int} {ks:List Kd} {ps:List Pd} {ls:List Ld} (h:Dr w base d m O P L wd now given births ks ps ls) (zF:base+4<=m) (zH:∀k∈ks,(k.sum.size:Int)=wd) (s:ByteArray):
 ∃u bo t ra rc refs ok,((¬Av ks s/\t=⟨#[]⟩/\refs=[]/\ok=false)∨(∃x∈ks,x.sum=s/\t=x.text/\refs=x.refs/\ok=true))/\Dp w base ra refs/\(∀b,Nt ra=some b->refs≠[]->∃zB,w.heap[b]?=some (.cells zB 9))/\
  ∀w',Uq w w'->Calls prog 52 #[.agg #[.int .i64 wd,.map (some m)],.string s] w' fun e w''=>e=.returned (.tuple #[.agg #[.string u,.int .i64 bo,.string t,.slice ra refs.length rc],.bool ok])/\Uq w' w'':=by
 obtain⟨n,f,hn,hM,hH⟩:=h.map;by_cases hs:(s.size:Int)=wd
 ·rcases hH s hs with⟨h1,h2⟩|⟨x,ra,rc,h1,h2,h3,h4⟩
  ·exact⟨⟨#[]⟩,0,⟨#[]⟩,none,0,[],false,.inl ⟨h2,rfl,rfl,rfl⟩,.inl rfl,(fun b hb=>by cases hb),fun w' hb=>DO wd m n f s w' (hM.keep hb hM.lt) hs _ _ _ _ _ ⟨_,_,_,rfl⟩ (by rw[h1];rfl) (by rw[h1];rfl)⟩
  ·refine⟨x.sum,x.born,x.text,ra,rc,x.refs,true,.inr ⟨x,h1,h2,rfl,rfl,rfl⟩,?_,?_,fun w' hb=>DO wd m n f s w' (hM.keep hb hM.lt) hs _ _ _ _ _ ⟨_,_,_,rfl⟩ (by rw[h3];rfl) (by rw[h3];rfl)⟩
   ·rcases h4 with h4|⟨b,off,ha,hb,hv,hx,hc⟩
    ·exact .inl h4
    ·rcases hx with⟨_,m',zC,zG⟩|⟨zE,zB,zA⟩
     ·cases zC;omega
     ·exact .inr ⟨b,off,ha,zE,hb,fun i q hq=>⟨hc i q hq,by simp[World.frozen?,zA]⟩⟩
   ·rcases h4 with h4|⟨b,off,ha,hb,hv,hx,hc⟩
    ·exact fun b hb hne=>absurd h4 hne
    ·rcases hx with⟨_,m',zC,zG⟩|⟨zE,zB,zA⟩
     ·cases zC;omega
     ·intro b' zD _
      rw[ha] at zD;cases zD;exact⟨zB,zA⟩
 ·exact⟨⟨#[]⟩,0,⟨#[]⟩,none,0,[],false,.inl ⟨fun⟨x,hx,e⟩=>hs (by rw[←e];exact zH x hx),rfl,rfl,rfl⟩,.inl rfl,(fun b hb=>by cases hb),fun w' _=>MB wd m s w' hs⟩
theorem FV.notStr {w:World} {lo k d m base:Nat} {O P L:Value} {v:Vd} {a:Va} {r:Rs} (h:FV w lo k d m base O P L v a r):NS w k:=fun cur fz e=>by
 obtain⟨c,hc⟩:=h.ty;rw[hc] at e;cases e
theorem OS (lo k d m base:Nat) (O P L:Value) (v:Vd) (a:Va) (r:Rs) (s:ByteArray) (w:World) (h:FV w lo k d m base O P L v a r) (zE:Cg v r):
 Calls prog 32 #[.pointer (some ⟨k,0,none⟩),.string s] w fun e w'=>∃(t:ByteArray) (ra:Option Addr) (refs:List ByteArray) (rc:Nat) (ok:Bool),OR v s t refs ok/\e=.returned (.tuple #[.agg #[.string t,.slice ra refs.length rc],.bool ok])/\Dp w' lo ra refs/\Below lo w w':=by
 have zX:=h.box.lt;obtain⟨W,hW⟩:∃W,W=w.alloc (.cells #[.string ⟨#[]⟩,.slice none 0 0] 40):=⟨_,rfl⟩;have bW:=(AC hW).1;have zW:=(AC hW).2.1;have xT:=(AC hW).2.2;have xK:=Aa.below h.box bW;obtain⟨W1,zC⟩:∃X,X=W.setCell ⟨k,0,none⟩ (.int .i32 1):=⟨_,rfl⟩;have t1:Tn [k] W W1:=by rw[zC];exact Tn.set _ _ _ _ (by simp)
 have yP:W1.heap.size=W.heap.size:=by rw[zC];simp
 have zQ:Aa W1 k [.int .i32 1,.int .u32 0,.int .i64 v.wd,.int .i64 v.lim,.slice a.sa v.ss.length a.sc,.slice a.ta v.tt.length a.tc,.int .i64 v.sw,.int .i64 v.now,.int .i64 v.given,.int .i64 v.births,.slice a.ka v.ks.length a.kc,.slice a.pa v.ps.length a.pc,.slice a.la v.ls.length a.lc,.int .i64 v.ph,.slice a.qa v.qs.length a.qc,.slice a.ma v.ms.length a.mc,.int .i64 v.top,.int .i64 v.at_,.int .i64 v.ro,.pointer (some ⟨d,0,none⟩)]:=by rw[zC];exact xK.set 0 _
 have yD:=Aa.same xT (t1.block _ (by omega) (by simp;omega));have yG:base<=k:=by have h1:=h.dr.bd;have h2:=h.lt d (by simp[vB]);omega
 have zY:k∉vB d m O P L:=fun e=>by have:=h.lt k e;omega
 have zV:NS W k:=fun zU fz e=>h.notStr zU fz ((bW.block k zX).symm.trans e);have zL:=(DU.turn ⟨h.dr.below bW⟩ t1 (fun b hb=>by simp at hb;subst hb;exact⟨yG,zY,zV⟩)).dr;have zZ:=zE.run.ok (Fm zE.wd.1 zE.wd.2);obtain⟨u,bo,t,ra,rc,refs,ok,zP,hw,yA,zO⟩:=SQ zL h.far zZ.kso.sz s;have yE:Hid (OR v s t refs ok):=.inr ⟨⟨r,zE⟩,by rw[zE.same.2.1] at zP;exact zP⟩;obtain⟨n,hn⟩:∃n,n=refs.length:=⟨_,rfl⟩
 rw[←hn] at zO;have Hn:Hid _:=hn;have HC:Hid _:=zO;have zT:Hid (Dp W1 base ra refs):=hw;have zI:Hid (∀b,Nt ra=some b->refs≠[]->b≠k/\b≠w.heap.size):=fun b hb hne=>by
  obtain⟨zU,zA⟩:=yA b hb hne;refine⟨fun e=> ?_,fun e=> ?_⟩
  ·rw[e] at zA
   obtain⟨c,hc⟩:=h.ty;rw[zC,heap_setCell_same W k 0 c _ _ ((bW.block k zX).trans hc)] at zA;cases zA
  ·rw[e] at zA
   have h1:=(t1.block w.heap.size (by omega) (by simp;omega)).symm.trans zA;rw[hW,heap_alloc_new] at h1;cases h1
 obtain⟨yJ,yK⟩:=Aa.c2 zL.box 0 1;have yL:d≠k:=fun e=>zY (by simp[vB,e]);have yM:d<W.heap.size:=by have:=h.lt d (by simp[vB]);omega
 obtain⟨c0,f0⟩:=xK 0 _ rfl;obtain⟨yI,_⟩:=zQ 19 _ rfl
 have zJ:Hid (Aa W1 k [.int .i32 1,.int .u32 0,.int .i64 v.wd,.int .i64 v.lim,.slice a.sa v.ss.length a.sc,.slice a.ta v.tt.length a.tc,.int .i64 v.sw,.int .i64 v.now,.int .i64 v.given,.int .i64 v.births,.slice a.ka v.ks.length a.kc,.slice a.pa v.ps.length a.pc,.slice a.la v.ls.length a.lc,.int .i64 v.ph,.slice a.qa v.qs.length a.qc,.slice a.ma v.ms.length a.mc,.int .i64 v.top,.int .i64 v.at_,.int .i64 v.ro,.pointer (some ⟨d,0,none⟩)]/\Aa W1 w.heap.size [.string ⟨#[]⟩,.slice none 0 0]):=⟨zQ,yD⟩
 have HW:Hid _:=hW;have zR:Hid _:=zC;have HB:Hid (lo<=k/\Below lo w W1/\lo<=base):=⟨h.hlk,(bW.mono (by have:=h.hlk;omega)).trans (t1.below (by have:=h.hlk;omega) (by simp;exact h.hlk)),h.hlo⟩;clear hW zC h zE zZ zP hw yA zO hn xT xK zQ yD zL zV t1 bW
 go_enter_defers func32,ntmps32
 go_upto_region 1 with fail;rw[←HW.o];clear HW;go_wp2_with (go_at_call 50;refine(lock_free Fq ⟨k,0,none⟩ _ c0 f0).mono ?_;rintro e w' ⟨rfl,rfl⟩;rw[←zR.o];clear zR c0 f0);refine(HC.o W1 (Below.refl _ _)).mono ?_;rintro e w3 ⟨rfl,zD⟩;have yN:=zD.size
 have zF:Hid (Aa w3 k [.int .i32 1,.int .u32 0,.int .i64 v.wd,.int .i64 v.lim,.slice a.sa v.ss.length a.sc,.slice a.ta v.tt.length a.tc,.int .i64 v.sw,.int .i64 v.now,.int .i64 v.given,.int .i64 v.births,.slice a.ka v.ks.length a.kc,.slice a.pa v.ps.length a.pc,.slice a.la v.ls.length a.lc,.int .i64 v.ph,.slice a.qa v.qs.length a.qc,.slice a.ma v.ms.length a.mc,.int .i64 v.top,.int .i64 v.at_,.int .i64 v.ro,.pointer (some ⟨d,0,none⟩)]/\Aa w3 w.heap.size [.string ⟨#[]⟩,.slice none 0 0]):=⟨Aa.below zJ.o.1 zD,Aa.below zJ.o.2 zD⟩
 obtain⟨p0,q0⟩:=zF.o.2 0 _ rfl;obtain⟨p1,q1⟩:=zF.o.2 1 _ rfl;obtain⟨Wa,zG⟩:∃X,X=(w3.setCell ⟨w.heap.size,0,none⟩ (.string t)).setCell ⟨w.heap.size,1,none⟩ (.slice ra n rc):=⟨_,rfl⟩;obtain⟨W5,zM⟩:∃X,X=Wa.alloc (.cells #[.string u,.int .i64 bo,.string t,.slice ra n rc] 115):=⟨_,rfl⟩;have ta:Tn [w.heap.size] w3 Wa:=by rw[zG];exact(Tn.set _ _ _ _ (by simp)).trans (Tn.set _ _ _ _ (by simp))
 have za:Wa.heap.size=w3.heap.size:=by rw[zG];simp
 have zK:=(AC zM).1;have t5:Tn [w.heap.size] w3 W5:=ta.trans ((Tn.of (V:=[]) zK).mono (by simp));have xa:Aa Wa w.heap.size [.string t,.slice ra n rc]:=by
  rw[zG];exact(zF.o.2.set 0 _).set 1 _
 have x5:=Aa.below xa zK;have y5:=Aa.same zF.o.1 (t5.block _ (by omega) (by simp;omega));have z5:=t5.size;have yB:Dp W5 base ra refs:=by
  by_cases hne:refs=[]
  ·exact .inl hne
  ·exact(zT.o.below zD).stays t5.size (fun b hb _ h2=>t5.block b h2 (by
    intro e;simp at e;exact(zI.o b hb hne).2 e))
 obtain⟨W6,zN⟩:∃X,X=W5.setCell ⟨k,0,none⟩ (.int .i32 0):=⟨_,rfl⟩;have t6:Tn [k] W5 W6:=by rw[zN];exact Tn.set _ _ _ _ (by simp)
 have x6:=Aa.same x5 (t6.block _ (by omega) (by simp;omega));have yC:Dp W6 base ra refs:=by
  by_cases hne:refs=[]
  ·exact .inl hne
  ·exact yB.stays t6.size (fun b hb _ h2=>t6.block b h2 (by
    intro e;simp at e;exact(zI.o b hb hne).1 e))
 have yH:w.heap.size<w3.heap.size:=by omega
 obtain⟨l0,g0⟩:=y5 0 _ rfl;have zH:Below lo w W6:=by
  have h1:=HB.o.2.1;have h2:=HB.o.1;exact((h1.trans (zD.mono (by omega))).trans (t5.below (by omega) (by simp;omega))).trans (t6.below (by omega) (by simp;omega))
 have zB:Hid (Dp W6 lo ra refs/\Below lo w W6/\Aa W6 w.heap.size [.string t,.slice ra n rc]):=⟨yC.mono HB.o.2.2,zH,x6⟩;have HU:Hid _:=And.intro l0 g0;have yF:Hid _:=zN;clear zN t6 t5 yC yB zH x6 x5 y5 l0 g0 zK ta xa za zD zF zJ HC zT zI z5;have zS:Hid _:=And.intro zG zM;clear zM zG;go_wp2_with fail;rw[←zS.o.1,←zS.o.2]
 refine leaves_cons (f:=51) (args:= #[.pointer (some ⟨k,0,none⟩)]) (by simp) (by simp[go_sem]) ?_;refine(unlock_deferred Fq ⟨k,0,none⟩ .returning _ HU.o.1 HU.o.2).mono ?_;rintro e u' yO ⟨rfl,rfl,rfl⟩;rw[←yF.o];exact⟨_,Dm (x:=.bool ok) results32 _ _ w.heap.size [.string t,.slice ra n rc] _ rfl rfl (Aa.range zB.o.2.2) underlying40 rfl (by kernel_rfl),t,ra,refs,rc,ok,yE.o,by rw[Hn.o],zB.o.1,zB.o.2.1⟩
theorem Nu (v:Vd) (a:Va) (s:ByteArray) (w:World) (hr:BV w w.heap.size a v) (hf:DM v) (hE:Env w):
 Calls prog 11 #[.agg #[.int .i64 v.wd,.int .i64 v.lim,.slice a.sa v.ss.length a.sc,.slice a.ta v.tt.length a.tc,.int .i64 v.sw,.int .i64 v.now,.int .i64 v.given,.int .i64 v.births,.slice a.ka v.ks.length a.kc,.slice a.pa v.ps.length a.pc,.slice a.la v.ls.length a.lc,.int .i64 v.ph,.slice a.qa v.qs.length a.qc,.slice a.ma v.ms.length a.mc,.int .i64 v.top,.int .i64 v.at_,.int .i64 v.ro],.string s] w fun e w'=>∃(t:ByteArray) (ra:Option Addr) (refs:List ByteArray) (rc:Nat) (ok:Bool),OR v s t refs ok/\e=.returned (.tuple #[.agg #[.string t,.slice ra refs.length rc],.bool ok])/\Dp w' w.heap.size ra refs/\Uq w w':=by
 obtain⟨W,hW⟩:∃W,W=(w.alloc (.cells #[.int .i64 v.wd,.int .i64 v.lim,.slice a.sa v.ss.length a.sc,.slice a.ta v.tt.length a.tc,.int .i64 v.sw,.int .i64 v.now,.int .i64 v.given,.int .i64 v.births,.slice a.ka v.ks.length a.kc,.slice a.pa v.ps.length a.pc,.slice a.la v.ls.length a.lc,.int .i64 v.ph,.slice a.qa v.qs.length a.qc,.slice a.ma v.ms.length a.mc,.int .i64 v.top,.int .i64 v.at_,.int .i64 v.ro] 36)).alloc (.cells #[.string ⟨#[]⟩,.slice none 0 0] 40):=⟨_,rfl⟩
 have bW:=(Ba hW).1;have zW:=(Ba hW).2.1;have HX:Hid (Aa W _ _):=(Ba hW).2.2.1;have HZ:Hid (Aa W (w.heap.size+1) [.string ⟨#[]⟩,.slice none 0 0]):=by
  have h1:=Aa.new (w.alloc (.cells #[.int .i64 v.wd,.int .i64 v.lim,.slice a.sa v.ss.length a.sc,.slice a.ta v.tt.length a.tc,.int .i64 v.sw,.int .i64 v.now,.int .i64 v.given,.int .i64 v.births,.slice a.ka v.ks.length a.kc,.slice a.pa v.ps.length a.pc,.slice a.la v.ls.length a.lc,.int .i64 v.ph,.slice a.qa v.qs.length a.qc,.slice a.ma v.ms.length a.mc,.int .i64 v.top,.int .i64 v.at_,.int .i64 v.ro] 36)) [.string ⟨#[]⟩,.slice none 0 0] 40
  rw[World.size_alloc] at h1;show Aa W (w.heap.size+1) [.string ⟨#[]⟩,.slice none 0 0];rw[hW];exact h1
 have HD:Hid _:=IU v a W (hr.below' bW) hf (hE.below bW);have HW:Hid _:=hW;have zC:Hid _:=bW;clear hW hr bW hf hE;go_enter func11,ntmps11;go_upto_region 1 with fail;rw[←HW.o];clear HW
 go_wp2_with (refine wpList_load_mid rfl 36 _ rfl w.heap.size 0 rfl [.int .i64 v.wd,.int .i64 v.lim,.slice a.sa v.ss.length a.sc,.slice a.ta v.tt.length a.tc,.int .i64 v.sw,.int .i64 v.now,.int .i64 v.given,.int .i64 v.births,.slice a.ka v.ks.length a.kc,.slice a.pa v.ps.length a.pc,.slice a.la v.ls.length a.lc,.int .i64 v.ph,.slice a.qa v.qs.length a.qc,.slice a.ma v.ms.length a.mc,.int .i64 v.top,.int .i64 v.at_,.int .i64 v.ro] _ HX.o.range underlying36 rfl (by kernel_rfl) ?_)
 refine Calls.mono HD.o ?_;rintro e w1 ⟨zB,⟨zK,rfl⟩|⟨r,k,d,m,O,P,L,base,zL,rfl,zJ⟩⟩
 ·have zD:Hid _:=Aa.below HZ.o zB
  have zE:Hid _:=zC.o.trans (zB.mono zC.o.size);have zO:Hid _:=zK;obtain⟨m0,n0⟩:=zD.o 0 _ rfl;obtain⟨m1,n1⟩:=zD.o 1 _ rfl;clear zK zB HD HX HZ zC;go_wp2;refine bodyPost_ret (v:=.tuple #[.agg #[.string ⟨#[]⟩,.slice none 0 0],.bool false]) (by simp[results,results11,go_sem,m0,m1]) rfl ?_;exact⟨⟨#[]⟩,none,[],0,false,.inl ⟨zO.o,rfl,rfl,rfl⟩,rfl,.inl rfl,(zE.o.setCell (by simp) _).setCell (by simp) _⟩
 ·have zD:Hid _:=Aa.below HZ.o zB
  have zE:Hid _:=zC.o.trans (zB.mono zC.o.size);have HF:Hid _:=OS W.heap.size k d m base O P L v a r s w1 zJ zL;have z1:=zB.size;clear zL zJ zB HD HX HZ zC;go_wp2_with fail;refine Calls.mono HF.o ?_;rintro e w2 ⟨t,ra,refs,rc,ok,zM,rfl,zN,zH⟩;obtain⟨n,hn⟩:∃n,n=refs.length:=⟨_,rfl⟩;rw[←hn];have zF:Hid (Aa w2 (w.heap.size+1) [.string ⟨#[]⟩,.slice none 0 0]):=Aa.same zD.o (zH.block _ (by omega))
  have zI:Hid (Uq w w2):=zE.o.trans (zH.mono (by omega));have z2:=zH.size;obtain⟨W3,zG⟩:∃X,X=(w2.setCell ⟨w.heap.size+1,0,none⟩ (.string t)).setCell ⟨w.heap.size+1,1,none⟩ (.slice ra n rc):=⟨_,rfl⟩;have t3:Tn [w.heap.size+1] w2 W3:=by rw[zG];exact(Tn.set _ _ _ _ (by simp)).trans (Tn.set _ _ _ _ (by simp))
  have x3:Aa W3 (w.heap.size+1) [.string t,.slice ra n rc]:=by rw[zG];exact(zF.o.set 0 _).set 1 _
  have zA:Hid (Aa W3 (w.heap.size+1) [.string t,.slice ra n rc]/\Dp W3 w.heap.size ra refs/\Uq w W3/\n=refs.length):=⟨x3,(zN.stays t3.size (fun b _ h1 h2=>t3.block b h2 (by simp;omega))).mono (by omega),zI.o.trans (t3.below (by omega) (by simp)),hn⟩;have zP:Hid _:=zM;have zQ:Hid _:=zG;obtain⟨m0,n0⟩:=zF.o 0 _ rfl;obtain⟨m1,n1⟩:=zF.o 1 _ rfl;clear zM zN zH hn t3 x3 zG HF zD zE zF zI
  go_wp2_with fail;rw[←zQ.o];refine bodyPost_ret (Dm (x:=.bool ok) results11 _ _ (w.heap.size+1) [.string t,.slice ra n rc] _ rfl rfl (Aa.range zA.o.1) underlying40 rfl (by kernel_rfl)) rfl ?_;exact⟨t,ra,refs,rc,ok,zP.o,by rw[zA.o.2.2.2],zA.o.2.1,zA.o.2.2.1⟩
end
theorem Ih {P:Program} (w:World) {ops:Array Oper} {o:Oper} {a:Act} {K:Act->World->Prop} {Q:Exit->Act->World->Prop} {E:Prop} (zI:o.guard=none) (sl x:Operand) (t:TypeId)
 (ho:o.op=.call {callee:=.builtin .append,args:= #[sl,x],argTypes:= #[t,t]})
 (base:Nat) (e:TypeId) (i:TypeInfo) (z:Value) (bytes:Nat) (ht:P.underlying t=some (.slice e)) (hi:P.info? e=some i) (hz:i.zero=some z)
 (zE:i.size=1) (zH:i.bytes=bytes) (zJ:z.cells.size=1)
 (q n c0:Nat) (ss:List ByteArray) (hs:a.eval sl=.slice (some ⟨q,0,none⟩) n c0) (zF:w.ownsRow base e 1 (.slice (some ⟨q,0,none⟩) n c0) n (ss.map Value.string))
 (ad:Addr) (m c:Nat) (tt:List ByteArray) (hx:a.eval x=.slice (some ad) m c) (hl:tt.length=m) (zD:∀j s,tt[j]?=some s->w.cell? (ad.add j)=some (.string s))
 (zG:n+m<=maxLen) (zA:(n+m) *bytes<=140737488355328) (zB:base<=w.heap.size)
 (h:∀g cap w',w'.ownsRow base e 1 (.slice (some ⟨g,0,none⟩) (n+m) cap) (n+m) ((ss++tt).map Value.string)->w.grownBy w' (some q)->(g=q∨g=w.heap.size)->g<w'.heap.size->K (a.put o.dst (.slice (some ⟨g,0,none⟩) (n+m) cap)) w'):
 if Region.wanted o (yielded ops a.tmps)=true then Oper.wp P o a w K Q else E:=by
 have hw:Region.wanted o (yielded ops a.tmps)=true:=by simp[Region.wanted,zI]
 rw[if_pos hw];obtain⟨v',w',hr,h2,h3,h4,h5⟩:=run_append_own_at (P:=P) w base t o.type e i z 1 bytes ht hi hz zE zH zJ (by decide) _ n _ zF ad m c (tt.map Value.string) (by simp[hl])
  (fun j u hu=>by
    rw[List.getElem?_map] at hu;cases hs:tt[j]? with
    |none=>rw[hs] at hu;cases hu
    |some s=>rw[hs] at hu;cases hu;exact zD j s hs)
  (fun u hu=>by obtain⟨s,_,rfl⟩:=List.mem_map.1 hu;rfl) zG zA zB
 have zC:∃g cap,v'=.slice (some ⟨g,0,none⟩) (n+m) cap:=by
  rcases Joins.ownsRow_forms h2 with⟨e1,_⟩|hf
  ·have:=(h4.1 e1).1
   cases this
  ·exact hf
 obtain⟨g,cap,rfl⟩:=zC;unfold Oper.wp execOp;simp only[ho,resolve,invoke,builtin,Sem.run_bind,Sem.run_pure,Result.andThen_ok,List.map_toArray,List.map_cons,List.map_nil,hs,hx,hr];refine h g cap w' (by rw[List.map_append];exact h2) h3 ?_ (h2.lt g rfl).2;rcases h5 with h5|h5
 ·left;simpa [Value.ownBlock] using h5
 ·right;simpa [Value.ownBlock] using h5
theorem BK {P:Program} (w:World) {ops:Array Oper} {o:Oper} {a:Act} {K:Act->World->Prop} {Q:Exit->Act->World->Prop} {E:Prop} (zG:o.guard=none) (sl x:Operand) (t:TypeId)
 (ho:o.op=.call {callee:=.builtin .append,args:= #[sl,x],argTypes:= #[t,t]})
 (base:Nat) (e:TypeId) (i:TypeInfo) (z:Value) (bytes:Nat) (ht:P.underlying t=some (.slice e)) (hi:P.info? e=some i) (hz:i.zero=some z)
 (zE:i.size=1) (zI:i.bytes=bytes) (zK:z.cells.size=1)
 (q n c0:Nat) (ss:List ByteArray) (hs:a.eval sl=.slice (some ⟨q,0,none⟩) n c0) (zA:w.ownsRow base e 1 (.slice (some ⟨q,0,none⟩) n c0) n (ss.map Value.string))
 (ad:Option Addr) (m c:Nat) (tt:List ByteArray) (hx:a.eval x=.slice ad m c) (hl:tt.length=m) (zF:ad=none->m=0/\c=0) (zD:∀A,ad=some A->∀j s,tt[j]?=some s->w.cell? (A.add j)=some (.string s))
 (zH:n+m<=maxLen) (zB:(n+m) *bytes<=140737488355328) (zC:base<=w.heap.size)
 (h:∀g cap w',w'.ownsRow base e 1 (.slice (some ⟨g,0,none⟩) (n+m) cap) (n+m) ((ss++tt).map Value.string)->w.grownBy w' (some q)->(g=q∨g=w.heap.size)->g<w'.heap.size->K (a.put o.dst (.slice (some ⟨g,0,none⟩) (n+m) cap)) w'):
 if Region.wanted o (yielded ops a.tmps)=true then Oper.wp P o a w K Q else E:=by
 cases ad with
 |some A=>exact Ih w zG sl x t ho base e i z bytes ht hi hz zE zI zK q n c0 ss hs zA A m c tt hx hl (zD A rfl) zH zB zC h
 |none=>
  obtain⟨rfl,rfl⟩:=zF rfl;have zJ:=List.eq_nil_of_length_eq_zero hl;subst zJ;have hw:Region.wanted o (yielded ops a.tmps)=true:=by simp[Region.wanted,zG]
  rw[if_pos hw];have hr:=run_append_owned_none (P:=P) w base t o.type e i 1 ht hi _ n _ zA;unfold Oper.wp execOp;simp only[ho,resolve,invoke,builtin,Sem.run_bind,Sem.run_pure,Result.andThen_ok,List.map_toArray,List.map_cons,List.map_nil,hs,hx,hr];exact h q c0 w (by simpa using zA) ⟨rfl,rfl,rfl,Us,fun _ _ _=>rfl⟩ (.inl rfl) (zA.lt q rfl).2
theorem Ad.cellsO {w:World} {B:Nat} {a:Option Addr} {ss:List ByteArray} (h:Ad w B a ss):∀A,a=some A->∀j s,ss[j]?=some s->w.cell? (A.add j)=some (.string s):=by
 rintro A rfl j s hs;rcases h with h|⟨b,off,h1,_,h3⟩
 ·subst h;simp at hs
 ·cases h1
  have:=h3 j s hs;rw[Go.WideShapes.add_plain];exact this
theorem Mr (t:ByteArray) (ra:Option Addr) (rc:Nat) (ss:List ByteArray) (w:World) (hr:Ad w w.heap.size ra ss) (zI:ra=none->ss.length=0/\rc=0) (hl:ss.length<=1048576):
 Calls prog 55 #[.agg #[.string t,.slice ra ss.length rc]] w fun e w'=>∃g c,e=.returned (.agg #[.string t,.slice (some ⟨g,0,none⟩) ss.length c])/\
  w'.ownsRow w.heap.size 9 1 (.slice (some ⟨g,0,none⟩) ss.length c) ss.length (ss.map Value.string)/\Uq w w':=by
 obtain⟨i0,hi,zR,zS,zT⟩:=info_parts Cv;obtain⟨W0,zB⟩:∃W0,W0=w.alloc (.cells #[.string t,.slice ra ss.length rc] 40):=⟨_,rfl⟩;have zF:=(AC zB).1;have T0:=(AC zB).2.2;have zK:=(AC zB).2.1;obtain⟨W,hW⟩:∃W,W=W0.alloc (.cells #[.string ⟨#[]⟩,.slice none 0 0] 40):=⟨_,rfl⟩;have zG:=(AC hW).1;have R1:=(AC hW).2.2;have T1:=T0.below zG;have zD:Below w.heap.size w W:=zF.trans (zG.mono zF.size)
 have zL:W0.heap.size<W.heap.size:=R1.lt;obtain⟨B,hB⟩:∃B,B=W0.heap.size:=⟨_,rfl⟩;have zO:w.heap.size<B:=by omega
 rw[←hB] at R1 zL;have zE:w.heap.size<W.heap.size:=by omega
 have zN:Hid _:=zB;have HW:Hid _:=hW;have HZ:Hid (w.heap.size+1=B):=by show _=_;omega
 obtain⟨t0,t1⟩:=Aa.c2 T1 0 1;have zC:Below W.heap.size W (W.alloc (.cells #[] 9)):=Ur;have oA:(W.alloc (.cells #[] 9)).drew.ownsRow (B+1) 9 1 (.slice (some ⟨W.heap.size,0,none⟩) 0 0) 0 (([]:List ByteArray).map Value.string):=World.ownsRow_lit W #[] 0 (by omega) (by unfold maxLen;omega) rfl;have rA:=(Ad.below hr (zD.trans (zC.drew.mono zD.size))).cellsO
 have q0:(W.alloc (.cells #[] 9)).cell? ⟨w.heap.size,0,none⟩=some (.string t):=(zC.cell (p:=⟨w.heap.size,0,none⟩) zE).trans t0;have q1:(W.alloc (.cells #[] 9)).cell? ⟨w.heap.size,1,none⟩=some (.slice ra ss.length rc):=(zC.cell (p:=⟨w.heap.size,1,none⟩) zE).trans t1;have HR:Hid _:=R1;have zM:Hid _:=zD;clear zB hW hB zF zG T0 R1 T1 zD zK;go_enter func55,ntmps55;go_upto_region 1 with fail
 rw[←zN.o,←HW.o,HZ.o];clear zN HW HZ
 go_region_law (first
  |(refine BK (W.alloc (.cells #[] 9)).drew rfl (.tmp 5) (.tmp 7) 25 rfl (B+1) 9 i0 (.string ⟨#[]⟩) 16 underlying25 hi zR zS zT rfl W.heap.size 0 0 [] rfl oA ra ss.length rc ss rfl rfl zI rA (by unfold maxLen;omega) (by omega) (by simp;omega) ?_;intro k8 zA w8 zJ zP zH zQ;simp only[Nat.zero_add,List.nil_append] at zJ;have b8:Below W.heap.size W w8:=zC.drew.grown zP (by simp) (fun j hj=>by cases hj;exact Us);have Z8:=Aa.below HR.o b8;obtain⟨y0,f0⟩:=Z8 0 _ rfl;obtain⟨y1,f1⟩:=Z8 1 _ rfl;have p0:=(b8.cell (p:=⟨w.heap.size,0,none⟩) zE).trans t0;have p1:=(b8.cell (p:=⟨w.heap.size,1,none⟩) zE).trans t1))
 all_goals
  have HO:Hid (w8.ownsRow (B+1) 9 1 (.slice (some ⟨k8,0,none⟩) ss.length zA) ss.length (ss.map Value.string)):=zJ;have HF:Hid (Uq w w8):=zM.o.trans (b8.mono zM.o.size);clear zJ zP zH b8 oA rA q0 q1;go_wp2;refine bodyPost_ret (v:=.agg #[.string t,.slice (some ⟨k8,0,none⟩) ss.length zA]) (by simp[results,results55,go_sem, *]) rfl ?_;refine⟨_,_,rfl,?_,?_⟩
  ·exact(ownsRow_setCell_below (ownsRow_setCell_below HO.o (a:=⟨B,0,none⟩) (Nat.lt_succ_self B) _) (a:=⟨B,1,none⟩) (Nat.lt_succ_self B) _).mono (by omega)
  ·exact(HF.o.setCell (p:=⟨B,0,none⟩) (Nat.le_of_lt zO) _).setCell (p:=⟨B,1,none⟩) (Nat.le_of_lt zO) _
structure AR (w:World) (b:Nat) (a:Option Addr) (n c:Nat) (p:Int):Prop where
 c0:w.cell? ⟨b,0,none⟩=some (.slice a n c)
 c1:w.cell? ⟨b,1,none⟩=some (.int .i64 p)
 f1:w.frozen? ⟨b,1,none⟩=false
 lt:b<w.heap.size
 n2:n<=2000
 bytes:n=0∨∃q off,a=some ⟨q,off,none⟩/\q<b/\∀j,j<n->∃x:Int,w.cell? ⟨q,off+j,none⟩=some (.int .u8 x)/\0<=x/\x<256
theorem AR.next {w:World} {b:Nat} {a:Option Addr} {n c:Nat} {p:Int} (h:AR w b a n c p) (p':Int):AR (w.setCell ⟨b,1,none⟩ (.int .i64 p')) b a n c p':=by
 obtain⟨c0,c1,f1,zB,zC,zA⟩:=h;refine⟨by simp[go_sem,c0],by simp[go_sem,c1],by simpa [go_sem] using f1,by simpa using zB,zC,?_⟩;rcases zA with h|⟨q,off,ha,zD,hx⟩
 ·exact .inl h
 ·refine .inr ⟨q,off,ha,zD,fun j hj=> ?_⟩
  obtain⟨x,hc,h0,h1⟩:=hx j hj;exact⟨x,by rw[World.cell?_setCell_other _ _ _ _ (by intro e;injection e;omega)];exact hc,h0,h1⟩
theorem AR.drewN {w:World} {b:Nat} {a:Option Addr} {n c:Nat} {p:Int} (h:AR w b a n c p) (k:Nat):AR (w.drewN k) b a n c p:=⟨h.c0,h.c1,h.f1,h.lt,h.n2,h.bytes⟩
theorem Hp {w w':World} {r:Option Nat} (h:w.grownBy w' r) (k:Nat):w.grownBy (w'.drewN k) r:=⟨h.os,h.tape,h.output,h.size,h.block⟩
theorem Qa {w w1 w2:World} {b g:Nat} (h1:w.grownBy w1 (some b)) (h2:w1.grownBy w2 (some g)) (hg:w.heap.size<=g):w.grownBy w2 (some b):=
 ⟨h2.os.trans h1.os,h2.tape.trans h1.tape,h2.output.trans h1.output,Uz h1.size h2.size,fun k hk hne=>(h2.block k (Uy hk h1.size) (by intro e;cases e;omega)).trans (h1.block k hk hne)⟩
theorem Qb (w:World) (g p:Nat) (v:Value):w.grownBy (w.setCell ⟨g,p,none⟩ v) (some g):=
 ⟨rfl,rfl,rfl,by simp,fun i _ hi=>Below.heap_setCell _ _ _ _ (fun e=>hi (by rw[e]))⟩
theorem AR.grown {w w':World} {b:Nat} {a:Option Addr} {n c:Nat} {p:Int} {g:Nat} (h:AR w b a n c p) (hg:w.grownBy w' (some g)) (hb:b<g):AR w' b a n c p:=by
 have hz:=hg.size;have hl:=h.lt;refine⟨hg.cell h.c0 (by simp;omega),hg.cell h.c1 (by simp;omega),(hg.frozen_far ⟨b,1,none⟩ hl (by simp;omega)).trans h.f1,by omega,h.n2,?_⟩;rcases h.bytes with h|⟨q,off,ha,zA,hx⟩
 ·exact .inl h
 ·refine .inr ⟨q,off,ha,zA,fun j hj=> ?_⟩
  obtain⟨x,hc,h0,h1⟩:=hx j hj;exact⟨x,hg.cell hc (by simp;omega),h0,h1⟩
theorem AR.below {w w':World} {b:Nat} {a:Option Addr} {n c:Nat} {p:Int} (h:AR w b a n c p) (hb:Uq w w'):AR w' b a n c p:=by
 have hl:=h.lt;refine⟨(hb.cell (p:=⟨b,0,none⟩) hl).trans h.c0,(hb.cell (p:=⟨b,1,none⟩) hl).trans h.c1,(hb.frozen (p:=⟨b,1,none⟩) hl).trans h.f1,Uy hl hb.size,h.n2,?_⟩;rcases h.bytes with h|⟨q,off,ha,zA,hx⟩
 ·exact .inl h
 ·refine .inr ⟨q,off,ha,zA,fun j hj=> ?_⟩
  obtain⟨x,hc,h0,h1⟩:=hx j hj;exact⟨x,(hb.cell (p:=⟨q,off+j,none⟩) (by simp;omega)).trans hc,h0,h1⟩
theorem Ch {a:Int} (h0:0<=a) (h1:a<=2000000000):IntKind.i64.wrap a=a:=by
 unfold IntKind.wrap;simp[IntKind.signed,IntKind.bits];omega
theorem Qc (a b:Nat) (ha:a<2^30) (hb:b<2^30):∃z:Nat,bits .xor .i64 (a:Int) (b:Int)=(z:Int):=by
 refine⟨a^^^b,?_⟩;have hx:a^^^b<2^30:=Nat.xor_lt_two_pow ha hb;have e1:(BitVec.ofInt 64 (a:Int)^^^BitVec.ofInt 64 (b:Int)).toNat=a^^^b:=by
  rw[BitVec.toNat_xor,BitVec.ofInt_natCast,BitVec.ofInt_natCast,BitVec.toNat_ofNat,BitVec.toNat_ofNat,Nat.mod_eq_of_lt (by omega),Nat.mod_eq_of_lt (by omega)]
 show IntKind.i64.wrap ((BitVec.ofInt 64 (a:Int)^^^BitVec.ofInt 64 (b:Int)).toNat:Int)=_;rw[e1];exact Ch (by omega) (by omega)
theorem Bi (b:Nat) (a:Option Addr) (n c:Nat) (p m:Int) (w:World) (h:AR w b a n c p) (hp:0<=p) (zR:p<=1000000) (hm:1<=m) (zO:m<=10000):
 Calls prog 14 #[.pointer (some ⟨b,0,none⟩),.int .i64 m] w fun e w'=>∃r:Int,e=.returned (.int .i64 r)/\0<=r/\r<m/\AR w' b a n c (p+1)/\w.grownBy w' (some b):=by
 have HN:Hid (AR (w.setCell ⟨b,1,none⟩ (.int .i64 (p+1))) b a n c (p+1)/\w.grownBy (w.setCell ⟨b,1,none⟩ (.int .i64 (p+1))) (some b)):=⟨h.next _,Qb _ _ _ _⟩;obtain⟨c0,c1,f1,zL,zP,zC⟩:=h;have w1:IntKind.i64.wrap (p+1)=p+1:=Ch (by omega) (by omega);have zN:decide (m<1)=false:=by simp;omega
 have zM:(m==0)=false:=beq_eq_false_iff_ne.2 (by omega);by_cases hn:n=0
 ·subst hn
  go_enter func14,ntmps14;go_wp2;go_ret;exact⟨0,rfl,by omega,by omega,HN.o.1,HN.o.2⟩
 ·obtain⟨q,off,ha,zS,hx⟩:=zC.resolve_left hn
  subst ha;have zQ:((n:Int)==0)=false:=beq_eq_false_iff_ne.2 (by omega);go_enter func14,ntmps14;by_cases hk:p<n
  ·obtain⟨x,hc,zI,zJ⟩:=hx p.toNat (by omega)
   obtain⟨k,rfl⟩:∃k:Nat,p=k:=⟨p.toNat,by omega⟩;simp only[Int.toNat_natCast] at hc;go_wp2;go_ret;exact⟨_,rfl,Int.emod_nonneg _ (by omega),Int.emod_lt_of_pos _ (by omega),HN.o.1,HN.o.2⟩
  ·obtain⟨k,rfl⟩:∃k:Nat,p=k:=⟨p.toNat,by omega⟩
   have zK:decide ((k:Int)<(n:Int))=false:=by simp;omega
   have zG:k%n<n:=Nat.mod_lt _ (by omega);have zH:(k *7+3)%n<n:=Nat.mod_lt _ (by omega);obtain⟨x,hc,zI,zJ⟩:=hx _ zG;obtain⟨y,hd,zT,zU⟩:=hx _ zH;have e1:(k:Int)%(n:Int)=((k%n:Nat):Int):=by simp
   have e2:((k:Int) *7+3)%(n:Int)=(((k *7+3)%n:Nat):Int):=by simp
   have zF:k/n<=k:=Nat.div_le_self _ _;have e3:(k:Int)/(n:Int)=((k/n:Nat):Int):=by simp
   have zE:k/n<=1000000:=by omega
   obtain⟨i3,zD⟩:∃i3,i3=k/n:=⟨_,rfl⟩;rw[←zD] at e3 zF zE;clear zD;have g1:IntKind.i64.wrap ((k:Int) *7)=(k:Int) *7:=Ch (by omega) (by omega);have g2:IntKind.i64.wrap ((k:Int) *7+3)=(k:Int) *7+3:=Ch (by omega) (by omega);have g3:IntKind.i64.wrap (x *131)=x *131:=Ch (by omega) (by omega);have g4:IntKind.i64.wrap (y *1117)=y *1117:=Ch (by omega) (by omega)
   have g5:IntKind.i64.wrap (x *131+y *1117)=x *131+y *1117:=Ch (by omega) (by omega);have g6:IntKind.i64.wrap ((k:Int) *29)=(k:Int) *29:=Ch (by omega) (by omega);have g7:IntKind.i64.wrap (x *131+y *1117+(k:Int) *29)=x *131+y *1117+(k:Int) *29:=Ch (by omega) (by omega);have g8:IntKind.i64.wrap ((i3:Int) *53)=(i3:Int) *53:=Ch (by omega) (by omega)
   have g9:IntKind.i64.wrap (x *131+y *1117+(k:Int) *29+(i3:Int) *53)=x *131+y *1117+(k:Int) *29+(i3:Int) *53:=Ch (by omega) (by omega);generalize k%n=i1 at *
   generalize (k *7+3)%n=i2 at *
   clear hx zC;go_wp2;go_quiet (fail);obtain⟨X,hX⟩:∃X:Nat,x *131+y *1117+(k:Int) *29+(i3:Int) *53=X:=⟨(x *131+y *1117+(k:Int) *29+(i3:Int) *53).toNat,by omega⟩;have zB:X<2^30:=by omega
   have zA:(X:Int)/64=((X/64:Nat):Int):=by simp
   obtain⟨z,hz⟩:=Qc X (X/64) zB (by omega);rw[←zA,←hX] at hz;have zV:(z:Int).tmod m=(z:Int)%m:=Int.tmod_eq_emod_of_nonneg (by omega);clear zA hX zB X;go_wp2;go_ret;exact⟨(z:Int)%m,by rfl,Int.emod_nonneg _ (by omega),Int.emod_lt_of_pos _ (by omega),AR.drewN HN.o.1 _,Hp HN.o.2 _⟩
theorem IZ (a:Option Addr) (n c:Nat) (w:World) (hn:n<=maxLen) (hb:n=0∨∃q off,a=some ⟨q,off,none⟩/\q<w.heap.size/\∀j,j<n->∃x:Int,w.cell? ⟨q,off+j,none⟩=some (.int .u8 x)/\0<=x/\x<256) (hc:n<=c):
 Calls prog 12 #[.slice a n c] w fun e w'=>∃n' c',e=.returned (.pointer (some ⟨w.heap.size,0,none⟩))/\AR w' w.heap.size a n' c' 0/\Uq w w':=by
 have zA:∀o,Uq w (w.alloc o):=fun o=>Ur;unfold maxLen at hn;have hR:∀n' c',n'<=n->n'<=2000->AR (w.alloc (.cells #[.slice a n' c',.int .i64 0] 84)) w.heap.size a n' c' 0:=fun n' c' h1 h2=>by
  refine⟨by simp[go_sem],by simp[go_sem],by simp[go_sem],by simp,h2,?_⟩;rcases hb with h|⟨q,off,ha,hq,hx⟩
  ·exact .inl (by omega)
  ·refine .inr ⟨q,off,ha,hq,fun j hj=> ?_⟩
   obtain⟨x,h3,h4⟩:=hx j (by omega);exact⟨x,((zA _).cell (p:=⟨q,off+j,none⟩) hq).trans h3,h4⟩
 have HR:Hid _:=hR;clear hR;by_cases h:n<=2000
 ·have hd:decide ((2000:Int)<(n:Int))=false:=by simp;omega
  go_enter func12,ntmps12;go_wp2;go_ret;exact⟨n,c,rfl,HR.o n c (Us) h,zA _⟩
 ·have hd:decide ((2000:Int)<(n:Int))=true:=by simp;omega
  obtain⟨q,off,ha,hq,hx⟩:=hb.resolve_left (by omega);subst ha;clear hx;go_enter func12,ntmps12;go_wp2;go_ret;exact⟨2000,_,rfl,HR.o 2000 _ (by omega) (Us),zA _⟩
theorem Jv {a:Int} (h0:0<=a) (h1:a<256):IntKind.u8.wrap a=a:=by
 unfold IntKind.wrap;simp[IntKind.signed,IntKind.bits];omega
theorem Dq (l:List Int):(strOfNums l).size=l.length:=by unfold strOfNums;simp[ByteArray.size]
theorem OT:(prog.info? 5).map (fun i=>(i.zero,i.size,i.bytes))=some (some (.int .u8 0),1,1):=by kernel_rfl
structure KJ (w w':World) (b:Nat) (a:Option Addr) (n c:Nat) (p:Int) (k:Int):Prop where
 st:∃p',AR w' b a n c p'/\p<=p'/\p'<=p+k
 gr:w.grownBy w' (some b)
theorem Ja (b:Nat) (a:Option Addr) (n c:Nat) (p:Int) (w:World) (h:AR w b a n c p) (hp:0<=p) (zT:p<=900000):
 Calls prog 53 #[.pointer (some ⟨b,0,none⟩)] w fun e w'=>∃s,e=.returned (.string s)/\s.size<=16/\KJ w w' b a n c p 10:=by
 obtain⟨i0,hi,zJ,zK,zL⟩:=info_parts OT;go_enter func53,ntmps53;go_wp2_with fail;refine(Bi b a n c p 9 w h hp (by omega) (by omega) (by omega)).mono ?_;rintro e w1 ⟨r,rfl,r0,r1,h1,g1⟩;have HD:Hid (KJ w w1 b a n c p 10):=⟨⟨_,h1,by omega,by omega⟩,g1⟩;by_cases q0:r=0
 ·have zN:(r==0)=true:=by simpa using q0
  clear q0;go_wp2;go_ret;exact⟨_,rfl,by decide,HD.o⟩
 have zN:(r==0)=false:=by simpa using q0
 by_cases q1:r=1
 ·have zO:(r==1)=true:=by simpa using q1
  clear q0 q1;go_wp2;go_ret;exact⟨_,rfl,by decide,HD.o⟩
 have zO:(r==1)=false:=by simpa using q1
 by_cases q2:r=2
 ·have zP:(r==2)=true:=by simpa using q2
  clear q0 q1 q2;go_wp2;go_ret;exact⟨_,rfl,by decide,HD.o⟩
 have zP:(r==2)=false:=by simpa using q2
 by_cases q3:r=3
 ·have zQ:(r==3)=true:=by simpa using q3
  clear q0 q1 q2 q3;go_wp2;go_ret;exact⟨_,rfl,by decide,HD.o⟩
 have zQ:(r==3)=false:=by simpa using q3
 clear HD;go_wp2_with fail;refine(Bi b a n c (p+1) 4 w1 h1 (by omega) (by omega) (by omega) (by omega)).mono ?_;rintro e w2 ⟨k,rfl,k0,k1,h2,g2⟩;have zC:=Aw g1 g2;have zM:=zC.size;have zR:=h2.lt;have hA:Below w2.heap.size w2 (w2.alloc (.cells #[] 5)):=Ur;have H3:Hid _:=h2.below hA;have G3:Hid _:=Aw zC (Aj (some b) hA)
 have O3:Hid ((w2.alloc (.cells #[] 5)).ownsRow w2.heap.size 5 1 (.slice (some ⟨w2.heap.size,0,none⟩) 0 0) 0 (([]:List Int).map (Value.int .u8))):=World.ownsRow_lit w2 #[] 0 (Us) (by unfold maxLen;omega) rfl;clear g1 g2 zC h1 h2 hA h;go_wp2
 go_loopw [4,5] (fun v i wr=>∃(j g cap:Nat) (xs:List Int),(j:Int)<=k+1/\xs.length=j/\i=.int .i64 j/\v=.slice (some ⟨g,0,none⟩) j cap/\Hid (wr.ownsRow w2.heap.size 5 1 (.slice (some ⟨g,0,none⟩) j cap) j (xs.map (Value.int .u8)))/\Hid (AR wr b a n c (p+1+1+j))/\Hid (w.grownBy wr (some b))) (fun _ i _=>(k+1).toNat -(intOf i).toNat)
 case atStart=>exact⟨0,_,_,[],by omega,rfl,rfl,rfl,O3,by simpa using H3,G3⟩
 case round=>
  clear H3 G3 O3;obtain⟨j,g,cap,xs,hj,zH,rfl,rfl,O3,H3,G3⟩:=hrel;have lg:=O3.o.lt g rfl;by_cases hlt:(j:Int)<=k
  ·have hd:decide ((j:Int)<=k)=true:=by simpa using hlt
   go_wp2_with fail;refine(Bi b a n c (p+1+1+j) 6 wr H3.o (by omega) (by omega) (by omega) (by omega)).mono ?_;rintro e w3 ⟨y,rfl,y0,y1,h3,g3⟩;have wy:IntKind.i64.wrap (97+y)=97+y:=Ch (by omega) (by omega);have wu:IntKind.u8.wrap (97+y)=97+y:=Jv (by omega) (by omega);have O4:Hid _:=World.ownsRow.kept O3.o g3 (.inr (by simp[Value.ownBlock];omega));have zV:=g3.size;go_wp2_with (first
    |(at_builtin;refine wpList_append_lies _ rfl _ _ 22 rfl w2.heap.size 5 i0 (.int .u8 0) 1 1 underlying22 hi zJ zK zL rfl (by decide) _ j (xs.map (Value.int .u8)) rfl ?d0 ⟨w3.heap.size,0,none⟩ 1 1 [.int .u8 (97+y)] rfl rfl ?d1 ?d2 (by decide) ?d3 ?d4 ?d5 _ rfl ?_)
    |go_in)
   case d0=>exact World.ownsRow.alloc O4.o _
   case d1=>exact cell_one_new w3 _ 5
   case d2=>intro u hu;simp at hu;subst hu;rfl
   case d3=>unfold maxLen;omega
   case d4=>omega
   case d5=>simp;omega
   intro g4 zA w4 zG zF zD zI;have hA:Below w3.heap.size w3 (w3.alloc (.cells #[.int .u8 (97+y)] 5)):=Ur;have zB:(w3.alloc (.cells #[.int .u8 (97+y)] 5)).grownBy w4 (some g):=by simpa [Value.ownBlock] using zF
   have H4:Hid (AR w4 b a n c (p+1+1+((j+1:Nat):Int))):=by
    have:=(h3.below hA).grown zB (by omega);rw[show p+1+1+((j+1:Nat):Int)=p+1+1+(j:Int)+1 by omega];exact this
   have zE:(w3.alloc (.cells #[.int .u8 (97+y)] 5)).grownBy w4 (some g):=zB;have G4:Hid (w.grownBy w4 (some b)):=Qa (Aw G3.o (Aw g3 (Aj _ hA))) zE (by omega);have O5:Hid (w4.ownsRow w2.heap.size 5 1 (.slice (some ⟨g4,0,none⟩) (j+1) zA) (j+1) ((xs++[97+y]).map (Value.int .u8))):=by
    have h9:w4.ownsRow w2.heap.size 5 1 (.slice (some ⟨g4,0,none⟩) (j+1) zA) (j+1) ((xs++[97+y]).map (Value.int .u8)):=by simpa using zG
    exact h9
   clear zG zF zB zE hA h3 g3 O3 O4 H3 G3 zD;go_wp2;exact⟨⟨j+1,g4,zA,xs++[97+y],by omega,by simp[zH],by go_num,by simp,O5,H4,G4⟩,by simp[intOf];omega⟩
  ·have hd:decide ((j:Int)<=k)=false:=by simpa using hlt
   have zS:=run_convert_bytes_arg (P:=prog) wr 22 5 underlying22 underlying5 g 0 j cap xs zH (fun i hi=>by
    rw[Nat.zero_add,O3.o.cellAt i (by simp;omega),List.getElem?_map,Uu (by omega)];simp[List.getD,Uu (show i<xs.length by omega)]) 9 underlying9
   have zU:=Dq xs;generalize strOfNums xs=T at *
   go_wp2;go_ret;exact⟨T,rfl,by omega,⟨_,H3.o,by omega,by omega⟩,G3.o⟩
theorem Nv (s:ByteArray) (n:Nat) (w:World) (h1:1<=s.size) (hs:s.size *n<=100000):
 Calls prog 56 #[.string s,.int .i64 n] w fun e w'=>∃T:ByteArray,e=.returned (.string T)/\T.size=s.size *n/\w'=w:=by
 go_enter func56,ntmps56;go_wp2
 go_loop [0,1,5] (fun u m o=>∃(S T:ByteArray) (k:Nat),u=.string S/\m=.int .i64 k/\o=.string T/\1<=S.size/\T.size+S.size *k=s.size *n) (fun _ m _=>(intOf m).toNat)
 case atStart=>exact⟨s,⟨#[]⟩,n,rfl,rfl,rfl,h1,by show 0+_=_;omega⟩
 case round=>
  obtain⟨S,T,k,rfl,rfl,rfl,hS,hT⟩:=hrel;by_cases hk:0<k
  ·have hd:decide ((0:Int)<(k:Int))=true:=by simp;omega
   have zD:S.size<=S.size *k:=Nat.le_mul_of_pos_right _ hk;have zE:S.size<=100000:=by omega
   have zF:T.size<=100000:=by omega
   have zB:=Nat.div_add_mod k 2;have zH:k/2<k:=Nat.div_lt_self hk (by omega);have zG:k<=100000:=by
    have:=Nat.le_mul_of_pos_left k hS;omega
   have zC:wrap64 ((k:Int)/2)=(k:Int)/2:=by unfold wrap64;omega
   rcases Nat.mod_two_eq_zero_or_one k with h0|h0
   ·have hm:((k:Int)%2==1)=false:=by rw[show(k:Int)%2=((k%2:Nat):Int) by simp,h0];rfl
    have hN:Hid (T.size+(S++S).size *(k/2)=s.size *n):=by
     show _=_;rw[←hT,ByteArray.size_append];have:k=2 *(k/2):=by omega
     conv=>rhs;rw[this]
     rw[←Nat.mul_assoc];congr 2;omega
    have zA:1<=(S++S).size:=by rw[ByteArray.size_append];omega
    clear zB hT;go_wp2;exact⟨⟨S++S,T,k/2,rfl,by simp,rfl,zA,hN.o⟩,by simp[intOf];omega⟩
   ·have hm:((k:Int)%2==1)=true:=by rw[show(k:Int)%2=((k%2:Nat):Int) by simp,h0];rfl
    have hN:Hid ((T++S).size+(S++S).size *(k/2)=s.size *n):=by
     show _=_;rw[←hT,ByteArray.size_append,ByteArray.size_append];have e:k=2 *(k/2)+1:=by omega
     have e2:S.size *k=S.size+(S.size+S.size) *(k/2):=by
      conv=>lhs;rw[e]
      rw[Nat.mul_add,Nat.mul_one,←Nat.mul_assoc,Nat.add_comm];congr 2;omega
     omega
    have zA:1<=(S++S).size:=by rw[ByteArray.size_append];omega
    clear zB hT;go_wp2;exact⟨⟨S++S,T++S,k/2,rfl,by simp,rfl,zA,hN.o⟩,by simp[intOf];omega⟩
  ·obtain rfl:k=0:=by omega
   go_wp2;go_ret;exact⟨T,rfl,by simpa using hT,rfl⟩
end Go.Proofs.YtflhhhnlhlaehaaGreatDoor
