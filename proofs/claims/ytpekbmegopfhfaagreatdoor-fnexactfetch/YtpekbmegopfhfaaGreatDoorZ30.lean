import Derived.Test.YtpekbmegopfhfaaGreatDoorZ28
import Derived.Test.YtpekbmegopfhfaaGreatDoorZ16
set_option maxRecDepth 100000
set_option maxHeartbeats 16000000
namespace Go.Proofs.YtpekbmegopfhfaaGreatDoor
open Go.ChangeShapes Go.WideShapes Go.ChangeAt Go.RowKit _root_.Go.Proofs.Tryz
theorem markLog_any (a b:Option Addr) (n m c d k base base':Nat) (xs ys:List Value) (w:World) (h1:w.ownsRow base 9 1 (.slice a n c) n xs) (h2:w.ownsRow base' 9 1 (.slice b m d) m ys)
 (hne:(Value.slice b m d).ownBlock=none∨(Value.slice b m d).ownBlock≠(Value.slice a n c).ownBlock) (hk:1<=k) (hkn:k+n+m<=100000000):
 Calls prog 24 #[.agg #[.slice a n c,.slice b m d],.int .i64 k] w fun e w'=>e=.returned (.int .i64 (k+n+m))/\w'.ownsRow base 9 1 (.slice a n c) n ((marks k n).map Value.string)/\
  w'.ownsRow base' 9 1 (.slice b m d) m ((marks (k+n) m).map Value.string)/\Twice w w' (Value.slice a n c).ownBlock (Value.slice b m d).ownBlock:=by
 have hb:Below w.heap.size w (w.alloc (.cells #[.slice a n c,.slice b m d] 40)):=(Below.refl _ _).alloc (Nat.le_refl _) _;go_enter func24,ntmps24;go_wp2_with fail;refine(markS_any a n c k base xs _ (h1.alloc _) hk (by omega)).mono ?_;rintro e w1 ⟨rfl,ho1,hg1⟩;have hlt:∀g,(Value.slice a n c).ownBlock=some g->g<w.heap.size:=fun g hg=>(h1.lt g hg).2
 have hbox0:w1.cell? ⟨w.heap.size,1,none⟩=some (.slice b m d):=hg1.cell (a:=⟨w.heap.size,1,none⟩) (by simp) (fun e=>by have:=hlt _ e.symm;simp at this);have ho2:w1.ownsRow base' 9 1 (.slice b m d) m ys:=(h2.alloc _).kept hg1 hne;have hcall:=markS_any b m d (k+n) base' ys w1 ho2 (by omega) (by omega);rw[show((k+n:Nat):Int)=(k:Int)+n from by omega] at hcall;go_wp2_with fail;refine hcall.mono ?_
 rintro e w2 ⟨rfl,ho3,hg2⟩;go_wp2;go_ret;refine⟨rfl,?_,ho3,?_⟩
 ·refine ho1.kept hg2 ?_
  rcases hne with h|h
  ·cases hv:(Value.slice a n c).ownBlock with
   |none=>exact .inl rfl
   |some g=>exact .inr (by rw[h];simp)
  ·exact .inr (fun e=>h e.symm)
 ·exact⟨hg2.os.trans hg1.os,hg2.tape.trans hg1.tape,hg2.output.trans hg1.output,by have:=hg1.size;have:=hg2.size;simp at *;omega,fun i hi e1 e2=>
   (hg2.block i (by have:=hg1.size;simp at this;omega) e2).trans ((hg1.block i (by simp;omega) e1).trans (hb.block i hi))⟩
def LBox (w:World) (b:Nat) (u v:Value):Prop:=w.cell? ⟨b,0,none⟩=some u/\w.cell? ⟨b,1,none⟩=some v/\b<w.heap.size
theorem markRound_any (ph top at_ ro:Int) (a b:Option Addr) (n m c d k base base':Nat) (xs ys:List Value) (w:World) (h1:w.ownsRow base 9 1 (.slice a n c) n xs) (h2:w.ownsRow base' 9 1 (.slice b m d) m ys)
 (hne:(Value.slice b m d).ownBlock=none∨(Value.slice b m d).ownBlock≠(Value.slice a n c).ownBlock) (hk:1<=k) (hkn:k+n+m<=100000000):
 Calls prog 62 #[.agg #[.int .i64 ph,.slice a n c,.slice b m d,.int .i64 top,.int .i64 at_,.int .i64 ro],.int .i64 k] w fun e w'=>e=.returned (.int .i64 (k+n+m))/\w'.ownsRow base 9 1 (.slice a n c) n ((marks k n).map Value.string)/\
  w'.ownsRow base' 9 1 (.slice b m d) m ((marks (k+n) m).map Value.string)/\Twice w w' (Value.slice a n c).ownBlock (Value.slice b m d).ownBlock:=by
 have hb:Below w.heap.size w (w.alloc (.cells #[.int .i64 ph,.slice a n c,.slice b m d,.int .i64 top,.int .i64 at_,.int .i64 ro] 42)):=(Below.refl _ _).alloc (Nat.le_refl _) _;go_enter func62,ntmps62;go_wp2_with fail;refine(markS_any a n c k base xs _ (h1.alloc _) hk (by omega)).mono ?_;rintro e w1 ⟨rfl,ho1,hg1⟩
 have hlt:∀g,(Value.slice a n c).ownBlock=some g->g<w.heap.size:=fun g hg=>(h1.lt g hg).2;have hbox0:w1.cell? ⟨w.heap.size,2,none⟩=some (.slice b m d):=hg1.cell (a:=⟨w.heap.size,2,none⟩) (by simp) (fun e=>by have:=hlt _ e.symm;simp at this);have ho2:w1.ownsRow base' 9 1 (.slice b m d) m ys:=(h2.alloc _).kept hg1 hne;have hcall:=markS_any b m d (k+n) base' ys w1 ho2 (by omega) (by omega)
 rw[show((k+n:Nat):Int)=(k:Int)+n from by omega] at hcall;go_wp2_with fail;refine hcall.mono ?_;rintro e w2 ⟨rfl,ho3,hg2⟩;go_wp2;go_ret;refine⟨rfl,?_,ho3,?_⟩
 ·refine ho1.kept hg2 ?_
  rcases hne with h|h
  ·cases hv:(Value.slice a n c).ownBlock with
   |none=>exact .inl rfl
   |some g=>exact .inr (by rw[h];simp)
  ·exact .inr (fun e=>h e.symm)
 ·exact⟨hg2.os.trans hg1.os,hg2.tape.trans hg1.tape,hg2.output.trans hg1.output,by have:=hg1.size;have:=hg2.size;simp at *;omega,fun i hi e1 e2=>
   (hg2.block i (by have:=hg1.size;simp at this;omega) e2).trans ((hg1.block i (by simp;omega) e1).trans (hb.block i hi))⟩
def truncW (w:World) (n:Nat):World:={w with heap:=w.heap.extract 0 n}
theorem truncW_size (w:World) {n:Nat} (h:n<=w.heap.size):(truncW w n).heap.size=n:=by
 show(w.heap.extract 0 n).size=n;rw[Array.size_extract];omega
theorem truncW_block (w:World) {n b:Nat} (h:n<=w.heap.size) (hb:b<n):(truncW w n).heap[b]?=w.heap[b]?:=by
 show(w.heap.extract 0 n)[b]?=w.heap[b]?;rw[Array.getElem?_extract];rw[if_pos (by omega),Nat.zero_add]
theorem truncW_below (w:World) {n:Nat} (h:n<=w.heap.size):Below (truncW w n).heap.size (truncW w n) w:=
 ⟨rfl,rfl,rfl,by rw[truncW_size w h];exact h,fun b hb=>by rw[truncW_size w h] at hb;exact(truncW_block w h hb).symm⟩
theorem SOwn.at {w w':World} {lo g p l:Nat} {ks:List Kd} {ps:List Pd} {ls:List Ld} (h:SOwn w lo g p l ks ps ls) (hs:∀b,lo<=b->b<w.heap.size->w'.heap[b]?=w.heap[b]?):SOwn w' lo g p l ks ps ls:=by
 have ow:∀{lo':Nat} {e:TypeId} {size:Nat} {v:Value} {n:Nat} {xs:List Value},lo<=lo'->w.ownsRow lo' e size v n xs->w'.ownsRow lo' e size v n xs:=fun hl ho=>own_same ho (fun q hq=>hs q (by have:=(own_lt ho hq).1;omega) (own_lt ho hq).2);obtain⟨xs,ho,hk⟩:=h.k;obtain⟨xp,hp,hp'⟩:=h.p;obtain⟨xl,hl,hl'⟩:=h.l
 refine⟨⟨xs,ow (Nat.le_refl _) ho,fun i x hx=> ?_⟩,⟨xp,ow (Nat.le_refl _) hp,hp'⟩,⟨xl,ow (Nat.le_refl _) hl,hl'⟩⟩;obtain⟨c0,c1,c2,g',c3,hr⟩:=hk i x hx;exact⟨c0,c1,c2,g',c3,ow (by have h2:=(ho.lt g rfl).1;omega) hr⟩
theorem markVaultX (v:Vd) (a:Va) (lo n0:Nat) (w0 w:World) (h:VOwn w0 lo a v) (hb:Below w0.heap.size w0 w) (hf:VFit v) (hn:1<=n0) (hn':n0<=1000):
 Calls prog 25 #[.agg #[.int .i64 v.wd,.int .i64 v.lim,.slice a.sa v.ss.length a.sc,.slice a.ta v.tt.length a.tc,.int .i64 v.sw,.int .i64 v.now,.int .i64 v.given,.int .i64 v.births,.slice a.ka v.ks.length a.kc,.slice a.pa v.ps.length a.pc,.slice a.la v.ls.length a.lc,.int .i64 v.ph,.slice a.qa v.qs.length a.qc,.slice a.ma v.ms.length a.mc,.int .i64 v.top,.int .i64 v.at_,.int .i64 v.ro],.int .i64 n0] w fun e w'=>(∃K:Nat,e=.returned (.int .i64 K)/\1<=K/\K<=90000000)/\Below lo w w'/\∀b,w0.heap.size<=b->b<w.heap.size->w'.heap[b]?=w.heap[b]?:=by
 obtain⟨g,k,g3,q3,r3,g5,k5,lo1,lo2,w2,rfl,h1,h2,h3,h4,h5,h6,h7,h8,h9,h10,h11,h12,h13⟩:=h;have hz:=hb.size;have l7:=h7.lt g rfl;have l8:=h8.lt k rfl;have l12:=h12.lt g5 rfl;have l13:=h13.lt k5 rfl
 obtain⟨W,hW⟩:∃W,W=w.alloc (.cells #[.int .i64 v.wd,.int .i64 v.lim,.slice (some ⟨g,0,none⟩) v.ss.length v.ss.length,.slice (some ⟨k,0,none⟩) v.tt.length v.tt.length,.int .i64 v.sw,.int .i64 v.now,.int .i64 v.given,.int .i64 v.births,.slice (some ⟨g3,0,none⟩) v.ks.length v.ks.length,.slice (some ⟨q3,0,none⟩) v.ps.length v.ps.length,.slice (some ⟨r3,0,none⟩) v.ls.length v.ls.length,.int .i64 v.ph,.slice (some ⟨g5,0,none⟩) v.qs.length v.qs.length,.slice (some ⟨k5,0,none⟩) v.ms.length v.ms.length,.int .i64 v.top,.int .i64 v.at_,.int .i64 v.ro] 44):=⟨_,rfl⟩
 have bW:=(al1 hW).1;have zW:=(al1 hW).2.1;have xW:=(al1 hW).2.2;have HX:Hid (CellsAt W _ _):=(al1 hW).2.2;have HO:Hid _:=And.intro (own_below (own_below h7 hb) bW) (And.intro (own_below (own_below h8 hb) bW) (And.intro (own_below (own_below h12 hb) bW) (own_below (own_below h13 hb) bW)))
 have HS:Hid (∀X,(∀b,lo1<=b->b<lo2->X.heap[b]?=W.heap[b]?)->SOwn X lo1 g3 q3 r3 v.ks v.ps v.ls):=fun X hX=>h9.at (fun b q1 q2=>((hX b q1 (by omega)).trans (bW.block b (by omega))).trans ((hb.block b (by omega)).trans (h11 b q1 q2)));have HF:Hid (SFit v.ks v.ps v.ls/\refsN v.ks<=1048576):=⟨hf.st,hf.rn⟩;have f1:=hf.s;have f2:=hf.t;have f3:=hf.r.q;have f4:=hf.r.m;obtain⟨c2,c3⟩:=CellsAt.c2 xW 2 3
 have HW:Hid _:=hW;have HB:Hid (Below w.heap.size w W):=bW;clear hW xW bW hf h7 h8 h9 h12 h13 h11;go_enter func25,ntmps25;go_upto_region 1 with fail;rw[←HW.out];clear HW;go_wp2_with fail;refine(markLog_any _ _ v.ss.length v.tt.length _ _ n0 lo lo _ _ W HO.out.1 HO.out.2.1 (.inr (by simp[Value.ownBlock];omega)) hn (by omega)).mono ?_;rintro e w3 ⟨he,_,_,ht3⟩
 obtain⟨K1,hK1⟩:∃K:Nat,K=n0+v.ss.length+v.tt.length:=⟨_,rfl⟩;rw[show(n0:Int)+v.ss.length+v.tt.length=(K1:Int) by omega] at he;subst he;have k1a:1<=K1:=by omega
 have k1b:K1<=10000000:=by omega
 clear hK1;have hz3:=ht3.size;have t3:∀b,b≠g->b≠k->b<W.heap.size->w3.heap[b]?=W.heap[b]?:=fun b q1 q2 q3=>ht3.block b q3 (by simp[Value.ownBlock];exact q1) (by simp[Value.ownBlock];exact q2);have bl3:Below lo W w3:=ht3.below (by omega) (fun q hq=>by simp[Value.ownBlock] at hq;omega) (fun q hq=>by simp[Value.ownBlock] at hq;omega)
 have z3:CellsAt w3 w.heap.size [.int .i64 v.wd,.int .i64 v.lim,.slice (some ⟨g,0,none⟩) v.ss.length v.ss.length,.slice (some ⟨k,0,none⟩) v.tt.length v.tt.length,.int .i64 v.sw,.int .i64 v.now,.int .i64 v.given,.int .i64 v.births,.slice (some ⟨g3,0,none⟩) v.ks.length v.ks.length,.slice (some ⟨q3,0,none⟩) v.ps.length v.ps.length,.slice (some ⟨r3,0,none⟩) v.ls.length v.ls.length,.int .i64 v.ph,.slice (some ⟨g5,0,none⟩) v.qs.length v.qs.length,.slice (some ⟨k5,0,none⟩) v.ms.length v.ms.length,.int .i64 v.top,.int .i64 v.at_,.int .i64 v.ro]:=CellsAt.same HX.out (t3 _ (by omega) (by omega) (by omega))
 have HX3:Hid (CellsAt w3 w.heap.size [.int .i64 v.wd,.int .i64 v.lim,.slice (some ⟨g,0,none⟩) v.ss.length v.ss.length,.slice (some ⟨k,0,none⟩) v.tt.length v.tt.length,.int .i64 v.sw,.int .i64 v.now,.int .i64 v.given,.int .i64 v.births,.slice (some ⟨g3,0,none⟩) v.ks.length v.ks.length,.slice (some ⟨q3,0,none⟩) v.ps.length v.ps.length,.slice (some ⟨r3,0,none⟩) v.ls.length v.ls.length,.int .i64 v.ph,.slice (some ⟨g5,0,none⟩) v.qs.length v.qs.length,.slice (some ⟨k5,0,none⟩) v.ms.length v.ms.length,.int .i64 v.top,.int .i64 v.at_,.int .i64 v.ro]):=z3
 have hS3:SOwn (truncW w3 lo2) lo1 g3 q3 r3 v.ks v.ps v.ls:=HS.out _ (fun b q1 q2=>(truncW_block w3 (by omega) q2).trans (t3 b (by omega) (by omega) (by omega)));have HM:Hid _:=markState_any v.sw v.now v.given v.births lo1 g3 q3 r3 K1 v.ks v.ps v.ls (truncW w3 lo2) w3 hS3 (truncW_below w3 (by omega)) HF.out.1 HF.out.2 (by omega) (by omega)
 have HT3:Hid ((∀b,b≠g->b≠k->b<W.heap.size->w3.heap[b]?=W.heap[b]?)/\Below lo W w3):=⟨t3,bl3⟩;obtain⟨c4,c5,c6,c7,c8,c9,c10⟩:=CellsAt.c7 z3 4 5 6 7 8 9 10;clear z3 hS3 t3 bl3 c2 c3 ht3 HX HS;go_wp2_with fail;refine Calls.mono HM.out ?_;rintro e w4 ⟨⟨K2,rfl,hK2,hK2'⟩,bl4,_,t4⟩;rw[truncW_size w3 (by omega)] at t4;have hz4:=bl4.size
 have HX4:CellsAt w4 w.heap.size [.int .i64 v.wd,.int .i64 v.lim,.slice (some ⟨g,0,none⟩) v.ss.length v.ss.length,.slice (some ⟨k,0,none⟩) v.tt.length v.tt.length,.int .i64 v.sw,.int .i64 v.now,.int .i64 v.given,.int .i64 v.births,.slice (some ⟨g3,0,none⟩) v.ks.length v.ks.length,.slice (some ⟨q3,0,none⟩) v.ps.length v.ps.length,.slice (some ⟨r3,0,none⟩) v.ls.length v.ls.length,.int .i64 v.ph,.slice (some ⟨g5,0,none⟩) v.qs.length v.qs.length,.slice (some ⟨k5,0,none⟩) v.ms.length v.ms.length,.int .i64 v.top,.int .i64 v.at_,.int .i64 v.ro]:=CellsAt.same HX3.out (t4 _ (by omega) (by omega))
 have hQ:w4.ownsRow lo2 9 1 (.slice (some ⟨g5,0,none⟩) v.qs.length v.qs.length) v.qs.length (v.qs.map Value.string):=own_same HO.out.2.2.1 (fun q hq=>by simp[Value.ownBlock] at hq;subst hq;exact(t4 _ (by omega) (by omega)).trans (HT3.out.1 _ (by omega) (by omega) (by omega)))
 have hM:w4.ownsRow lo2 9 1 (.slice (some ⟨k5,0,none⟩) v.ms.length v.ms.length) v.ms.length (v.ms.map Value.string):=own_same HO.out.2.2.2 (fun q hq=>by simp[Value.ownBlock] at hq;subst hq;exact(t4 _ (by omega) (by omega)).trans (HT3.out.1 _ (by omega) (by omega) (by omega)))
 have HRd:Hid _:=markRound_any v.ph v.top v.at_ v.ro _ _ v.qs.length v.ms.length _ _ K2 lo2 lo2 _ _ w4 hQ hM (.inr (by simp[Value.ownBlock];omega)) (by omega) (by omega);have HT4:Hid ((∀b,lo2<=b->b<w3.heap.size->w4.heap[b]?=w3.heap[b]?)/\Below lo1 w3 w4):=⟨t4,bl4⟩;obtain⟨c11,c12,c13,c14,c15,c16⟩:=CellsAt.c6 HX4 11 12 13 14 15 16;clear HX4 hQ hM t4 bl4 c4 c5 c6 c7 c8 c9 c10 HM HX3 HO
 go_wp2_with fail;refine Calls.mono HRd.out ?_;rintro e w5 ⟨he,_,_,ht5⟩;obtain⟨K3,hK3⟩:∃K:Nat,K=K2+v.qs.length+v.ms.length:=⟨_,rfl⟩;rw[show(K2:Int)+v.qs.length+v.ms.length=(K3:Int) by omega] at he;subst he;have k3a:1<=K3:=by omega
 have k3b:K3<=90000000:=by omega
 clear hK3;have hz5:=ht5.size;have bl5:Below lo2 w4 w5:=ht5.below (by omega) (fun q hq=>by simp[Value.ownBlock] at hq;omega) (fun q hq=>by simp[Value.ownBlock] at hq;omega);have HFin:Hid (Below lo w w5/\∀b,w0.heap.size<=b->b<w.heap.size->w5.heap[b]?=w.heap[b]?):=
  ⟨(((HB.out.mono (by omega)).trans HT3.out.2).trans (HT4.out.2.mono (by omega))).trans (bl5.mono (by omega)),fun b q1 q2=>(ht5.block b (by omega) (by simp[Value.ownBlock];omega) (by simp[Value.ownBlock];omega)).trans ((HT4.out.1 b (by omega) (by omega)).trans ((HT3.out.1 b (by omega) (by omega) (by omega)).trans (HB.out.block b q2)))⟩
 clear c11 c12 c13 c14 c15 c16 HRd ht5 bl5 HT3 HT4 HB;go_wp2;go_ret;exact⟨⟨K3,rfl,k3a,k3b⟩,HFin.out.1,HFin.out.2⟩
def ORow (w:World) (base:Nat) (v:Value) (ss:List ByteArray):Prop:=
 (v=.slice none 0 0/\ss=[])∨∃g off cap,v=.slice (some ⟨g,off,none⟩) ss.length cap/\base<=g/\g<w.heap.size/\ss.length<=cap/\cap<=maxLen/\
   (∀j,j<cap->(w.cell? ⟨g,off+j,none⟩).isSome=true/\w.frozen? ⟨g,off+j,none⟩=false)/\
   ∀i s,ss[i]?=some s->w.cell? ⟨g,off+i,none⟩=some (.string s)
theorem marks_setB (k i:Nat) (xs:List ByteArray) (h:i<xs.length):(marks k i++xs.drop i).set i (mkT (k+i))=marks k (i+1)++xs.drop (i+1):=by
 have hl:(marks k i).length=i:=marks_length k i;rw[List.set_append_right _ _ (by omega),hl,Nat.sub_self,List.drop_eq_getElem_cons h,List.set_cons_zero];simp[marks,List.range_succ]
theorem heldThing_any (t:ByteArray) (a:Option Addr) (n cap k:Nat) (w:World) (hrow:SRow w w.heap.size a (marks k n)) (hk:1<=k) (hkn:k+n<=100000000):
 Calls prog 35 #[.agg #[.string t,.slice a n cap],.int .i64 k] w fun e w'=>e=.returned (.int .i64 (k+n))/\Below w.heap.size w w':=by
 have hb:Below w.heap.size w (w.alloc (.cells #[.string t,.slice a n cap] 66)):=(Below.refl _ _).alloc (Nat.le_refl _) _;have hnn:¬((k:Int)+n<0):=by omega
 go_enter func35,ntmps35;go_wp2_with fail;refine(heldS_any a n cap k w.heap.size _ (hrow.below hb) (by simp) hk hkn).mono ?_;rintro e w2 ⟨rfl,hb2⟩;go_wp2;go_ret;exact⟨rfl,hb.trans (hb2.mono (by simp))⟩
def WRow (w:World) (base:Nat) (a:Option Addr) (ss:List ByteArray):Prop:=
 ss=[]∨∃b off,a=some ⟨b,off,none⟩/\base<=b/\b<w.heap.size/\∀i s,ss[i]?=some s->w.cell? ⟨b,off+i,none⟩=some (.string s)/\w.frozen? ⟨b,off+i,none⟩=false
def aBlk (a:Option Addr):Option Nat:=a.map (·.block)
def gBlk (a:Option Addr) (ss:List ByteArray):Option Nat:=if ss=[] then none else aBlk a
theorem WRow.row {w:World} {base:Nat} {a:Option Addr} {ss:List ByteArray} (h:WRow w base a ss):SRow w w.heap.size a ss:=by
 rcases h with h|⟨b,off,rfl,h1,h2,h3⟩
 ·exact .inl h
 ·exact .inr ⟨b,off,rfl,h2,fun i s hs=>(h3 i s hs).1⟩
theorem WRow.stays {w w':World} {base:Nat} {a:Option Addr} {ss:List ByteArray} (h:WRow w base a ss) (hz:w.heap.size<=w'.heap.size) (hs:∀b,aBlk a=some b->base<=b->b<w.heap.size->w'.heap[b]?=w.heap[b]?):WRow w' base a ss:=by
 rcases h with h|⟨b,off,rfl,h1,h2,h3⟩
 ·exact .inl h
 ·have e:=hs b rfl h1 h2
  exact .inr ⟨b,off,rfl,h1,by omega,fun i s hs=>⟨(World.cell?_of_block (a:=⟨b,off+i,none⟩) e).trans (h3 i s hs).1,(World.frozen?_of_block (a:=⟨b,off+i,none⟩) e).trans (h3 i s hs).2⟩⟩
theorem WRow.below {w w':World} {base:Nat} {a:Option Addr} {ss:List ByteArray} (h:WRow w base a ss) (hb:Below w.heap.size w w'):WRow w' base a ss:=
 h.stays hb.size (fun b _ _ h2=>hb.block b h2)
theorem WRow.mono {w:World} {base base':Nat} {a:Option Addr} {ss:List ByteArray} (h:WRow w base a ss) (hb:base'<=base):WRow w base' a ss:=by
 rcases h with h|⟨b,off,rfl,h1,h2,h3⟩
 ·exact .inl h
 ·exact .inr ⟨b,off,rfl,by omega,h2,h3⟩
theorem WRow.set {w:World} {base g off:Nat} {ss:List ByteArray} (h:WRow w base (some ⟨g,off,none⟩) ss) {j:Nat} (hj:j<ss.length) (t:ByteArray):WRow (w.setCell ⟨g,off+j,none⟩ (.string t)) base (some ⟨g,off,none⟩) (ss.set j t):=by
 rcases h with h|⟨b,off',e,h1,h2,h3⟩
 ·rw[h] at hj;simp at hj
 ·cases e
  refine .inr ⟨g,off,rfl,h1,by simpa using h2,fun i s hs=> ?_⟩;have hi:i<ss.length:=by have:=(List.getElem?_eq_some_iff.1 hs).1;rw[List.length_set] at this;exact this
  have h4:=h3 i _ (List.getElem?_eq_getElem hi);refine⟨?_,by simpa using h4.2⟩;by_cases hij:i=j
  ·subst hij
   rw[List.getElem?_set_self hj] at hs;cases hs;exact World.cell?_setCell_same' _ _ _ (by rw[h4.1];rfl)
  ·rw[List.getElem?_set_ne (fun e=>hij e.symm)] at hs
   exact(World.cell?_setCell_other w _ _ _ (by simp<;>omega)).trans (h3 i s hs).1
theorem markW_any (base k:Nat) (a:Option Addr) (cap:Nat) (ss:List ByteArray) (w:World) (h:WRow w base a ss) (hk:1<=k) (hkn:k+ss.length<=100000000):
 Calls prog 15 #[.slice a ss.length cap,.int .i64 k] w fun e w'=>e=.returned (.int .i64 (k+ss.length:Nat))/\WRow w' base a (marks k ss.length)/\w.grownBy w' (gBlk a ss):=by
 have HO:Hid (WRow w base a ss):=h;obtain⟨n,hn⟩:∃n,n=ss.length:=⟨_,rfl⟩;rw[←hn] at hkn ⊢;have Hn:Hid (n=ss.length):=hn;clear h hn;go_enter func15,ntmps15;go_wp2
 go_loopw [1,5] (fun v i wr=>∃(j:Nat),j<=n/\i=.int .i64 j/\v=.int .i64 (k+j)/\Hid (WRow wr base a (marks k j++ss.drop j)/\w.grownBy wr (gBlk a ss))) (fun _ i _=>n -(intOf i).toNat)
 case atStart=>exact⟨0,Nat.zero_le _,rfl,by simp,by simpa [marks] using HO.out,grown_refl _ _⟩
 case round=>
  obtain⟨j,hj,rfl,rfl,HI⟩:=hrel;by_cases hlt:j<n
  ·have hll:(marks k j++ss.drop j).length=n:=by rw[List.length_append,marks_length,List.length_drop];have:=Hn.out;omega
   obtain⟨g,off,rfl,hsome,hfr⟩:∃g off,a=some ⟨g,off,none⟩/\(∀X,Below wr.heap.size wr X->(X.cell? ⟨g,off+j,none⟩).isSome=true)/\(∀X,Below wr.heap.size wr X->X.frozen? ⟨g,off+j,none⟩=false):=by
    rcases HI.out.1 with e2|⟨g,off,e,h1,h2,h5⟩
    ·rw[e2] at hll;simp at hll;omega
    ·have h6:=h5 j _ (List.getElem?_eq_getElem (by omega))
     refine⟨g,off,e,fun X hX=> ?_,fun X hX=> ?_⟩
     ·rw[hX.cell (p:=⟨g,off+j,none⟩) h2,h6.1];rfl
     ·rw[hX.frozen (p:=⟨g,off+j,none⟩) h2];exact h6.2
   have hcall:=markText_any (k+j) wr (by omega) (by omega);rw[show((k+j:Nat):Int)=(k:Int)+j from by omega] at hcall;have hlt':(j:Int)<n:=by omega
   have HS:Hid _:=And.intro hsome hfr;clear hsome hfr;go_wp2_with fail;refine hcall.mono ?_;rintro e w2 ⟨rfl,hb2⟩;obtain⟨v0,hcc⟩:=Option.isSome_iff_exists.1 (HS.out.1 w2 hb2);have hff:=HS.out.2 w2 hb2;have hst:=(HI.out.1.below hb2).set (j:=j) (by rw[hll];exact hlt) (mkT (k+j));rw[marks_setB k j ss (by have:=Hn.out;omega)] at hst
   have hgb:gBlk (some ⟨g,off,none⟩) ss=some g:=by unfold gBlk;rw[if_neg (fun e=>by have:=Hn.out;rw[e] at this;simp at this;omega)];rfl
   have hg2:w.grownBy (w2.setCell ⟨g,off+j,none⟩ (.string (mkT (k+j)))) (gBlk (some ⟨g,off,none⟩) ss):=by
    rw[hgb];have h1:=HI.out.2;rw[hgb] at h1;exact grown_trans h1 (grown_trans (grown_below _ hb2) (grown_set w2 g (off+j) (.string (mkT (k+j)))))
   have HH:Hid _:=And.intro hst hg2;clear hst hg2 hgb HI hcall HS;go_wp2;exact⟨⟨j+1,by omega,by go_num,by go_num,HH.out.1,HH.out.2⟩,by simp[intOf];omega⟩
  ·obtain rfl:j=n:=by omega
   have hE:=HI.out.1;rw[List.drop_of_length_le (by have:=Hn.out;omega),List.append_nil] at hE;have HE:Hid (WRow wr base a (marks k j)):=hE;clear hE;go_wp2;go_ret;exact⟨by go_num,HE.out,HI.out.2⟩
theorem markThingW (t:ByteArray) (base k:Nat) (a:Option Addr) (cap:Nat) (ss:List ByteArray) (w:World) (h:WRow w base a ss) (hk:1<=k) (hkn:k+ss.length<=100000000):
 Calls prog 34 #[.agg #[.string t,.slice a ss.length cap],.int .i64 k] w fun e w'=>e=.returned (.int .i64 (k+ss.length:Nat))/\WRow w' base a (marks k ss.length)/\w.grownBy w' (gBlk a ss):=by
 have hb:Below w.heap.size w (w.alloc (.cells #[.string t,.slice a ss.length cap] 66)):=(Below.refl _ _).alloc (Nat.le_refl _) _;have HC:Hid _:=markW_any base k a cap ss _ (h.below hb) hk hkn;clear h;go_enter func34,ntmps34;go_wp2_with fail;refine Calls.mono HC.out ?_;rintro e w2 ⟨rfl,ho2,hg2⟩;go_wp2;go_ret;exact⟨rfl,ho2,grown_trans (grown_below _ hb) hg2⟩
theorem SAns.turn {w w':World} {base:Nat} {T P L:Value} {rs:List Value} {ks:List Kd} {ps:List Pd} {ls:List Ld} (h:SAns w base T P L rs ks ps ls) {V:List Nat} (ht:Tn V w w') (hV:∀b∈V,b<base):SAns w' base T P L rs ks ps ls:=by
 have hs:∀{e:TypeId} {size:Nat} {v:Value} {n:Nat} {xs:List Value},w.ownsRow base e size v n xs->w'.ownsRow base e size v n xs:=fun ho=>own_same ho (fun g hg=>ht.block g (own_lt ho hg).2 (fun e=>by have:=hV g e;have:=(own_lt ho hg).1;omega));exact⟨h.len,hs h.things,fun i k r hk hr=>hs (h.refs i k r hk hr),hs h.pins,hs h.leases,h.nd⟩
theorem SAns.mono {w:World} {base base':Nat} {T P L:Value} {rs:List Value} {ks:List Kd} {ps:List Pd} {ls:List Ld} (h:SAns w base T P L rs ks ps ls) (hb:base'<=base):SAns w base' T P L rs ks ps ls:=
 ⟨h.len,h.things.mono hb,fun i k r hk hr=>(h.refs i k r hk hr).mono hb,h.pins.mono hb,h.leases.mono hb,h.nd⟩
theorem SAns.rows {w:World} {base:Nat} {T P L:Value} {rs:List Value} {ks:List Kd} {ps:List Pd} {ls:List Ld} (h:SAns w base T P L rs ks ps ls):∃ta tc pa pc la lc,T=.slice ta ks.length tc/\P=.slice pa ps.length pc/\L=.slice la ls.length lc/\SRows w w.heap.size ta pa la ks ps ls:=by
 obtain⟨ta,tc,rfl⟩:=own_val h.things;obtain⟨pa,pc,rfl⟩:=own_val h.pins;obtain⟨la,lc,rfl⟩:=own_val h.leases;refine⟨ta,tc,pa,pc,la,lc,rfl,rfl,rfl,⟨?_,PRow.own h.pins,LRow.own h.leases⟩⟩;rcases h.things.2 with⟨_,hn⟩|⟨g,cap,cur,e,hb,hg,_⟩
 ·exact .inl (List.length_eq_zero_iff.1 hn)
 ·cases e
  refine .inr ⟨g,0,rfl,(Array.getElem?_eq_some_iff.1 hg).1,fun i k hk=> ?_⟩;have hi:=(List.getElem?_eq_some_iff.1 hk).1;have hlen:=h.len;have hr:rs[i]?=some rs[i]:=List.getElem?_eq_getElem (by omega);have hz:(ks.zip rs)[i]?=some (k,rs[i]):=List.getElem?_zip_eq_some.2 ⟨hk,hr⟩;have hzl:(ks.zip rs).length=ks.length:=by rw[List.length_zip];omega
  have hc:∀j,j<4->w.cell? ⟨g,i *4+j,none⟩=(kC (k,rs[i]))[j]?:=fun j hj=>(h.things.cellAt (i *4+j) (by omega)).trans (row_get kC_len4 hz hj);have ho:=h.refs i k _ hk hr;obtain⟨ra,rc,hra⟩:=own_val ho;rw[Nat.zero_add];refine⟨by simpa [kC] using hc 0 (by decide),by simpa [kC] using hc 1 (by decide),by simpa [kC] using hc 2 (by decide),ra,rc,?_,?_⟩
  ·have:=hc 3 (by decide)
   rw[←hra];simpa [kC] using this
  ·rw[hra] at ho
   rcases ho.2 with⟨_,hn⟩|⟨g2,cap2,cur2,e2,_⟩
   ·exact .inl (List.eq_nil_of_length_eq_zero hn)
   ·cases e2
    exact SRow.own ho
theorem SOwn.ksome {w:World} {lo g p l:Nat} {ks:List Kd} {ps:List Pd} {ls:List Ld} (h:SOwn w lo g p l ks ps ls):KSome w ⟨g,0,none⟩ ks:=by
 obtain⟨xs,ho,hk⟩:=h.k;intro i x hx;have hi:=(List.getElem?_eq_some_iff.1 hx).1;obtain⟨_,_,_,q,h3,_⟩:=hk i x hx;refine⟨⟨q,0,none⟩,x.refs.length,?_⟩;rw[←h3,Nat.zero_add];exact ho.cellAt (i *4+3) (by omega)
def vaS (g k g3 q3 r3 g5 k5:Nat) (v:Vd):Va:=⟨some ⟨g,0,none⟩,v.ss.length,some ⟨k,0,none⟩,v.tt.length,some ⟨g3,0,none⟩,v.ks.length,some ⟨q3,0,none⟩,v.ps.length,some ⟨r3,0,none⟩,v.ls.length,some ⟨g5,0,none⟩,v.qs.length,some ⟨k5,0,none⟩,v.ms.length⟩
def VRx (v:Vd) (L:Nat) (X:World) (cs:List Value):Prop:=
 ∃g k g3 q3 r3 g5 k5,cs=[.int .i64 v.wd,.int .i64 v.lim,.slice (some ⟨g,0,none⟩) v.ss.length v.ss.length,.slice (some ⟨k,0,none⟩) v.tt.length v.tt.length,.int .i64 v.sw,.int .i64 v.now,.int .i64 v.given,.int .i64 v.births,.slice (some ⟨g3,0,none⟩) v.ks.length v.ks.length,.slice (some ⟨q3,0,none⟩) v.ps.length v.ps.length,.slice (some ⟨r3,0,none⟩) v.ls.length v.ls.length,.int .i64 v.ph,.slice (some ⟨g5,0,none⟩) v.qs.length v.qs.length,.slice (some ⟨k5,0,none⟩) v.ms.length v.ms.length,.int .i64 v.top,.int .i64 v.at_,.int .i64 v.ro]/\VRows X L (vaS g k g3 q3 r3 g5 k5 v) v/\KSome X ⟨g3,0,none⟩ v.ks
def VOx (v:Vd) (lo N:Nat) (X:World) (cs:List Value):Prop:=
 N<=X.heap.size/\∃b:Va,cs=[.int .i64 v.wd,.int .i64 v.lim,.slice b.sa v.ss.length b.sc,.slice b.ta v.tt.length b.tc,.int .i64 v.sw,.int .i64 v.now,.int .i64 v.given,.int .i64 v.births,.slice b.ka v.ks.length b.kc,.slice b.pa v.ps.length b.pc,.slice b.la v.ls.length b.lc,.int .i64 v.ph,.slice b.qa v.qs.length b.qc,.slice b.ma v.ms.length b.mc,.int .i64 v.top,.int .i64 v.at_,.int .i64 v.ro]/\VOwn (truncW X N) lo b v
theorem KSome.keep {w w':World} {A:Addr} {ks:List Kd} {B:Nat} (h:KSome w A ks) (hr:KRow w B (some A) ks) (hb:Below B w w'):KSome w' A ks:=fun i k hk=>by
 obtain⟨ad,rc,hc⟩:=h i k hk;obtain⟨b,off,ha,hlt,_⟩:=hr.at (List.getElem?_eq_some_iff.1 hk).1;cases ha;exact⟨ad,rc,(hb.cell (p:=⟨b,off+i *4+3,none⟩) hlt).trans hc⟩
theorem VOwn.got {w:World} {lo:Nat} {b:Va} {v:Vd} (h:VOwn w lo b v):∃g k g3 q3 r3 g5 k5,b=vaS g k g3 q3 r3 g5 k5 v/\VRows w w.heap.size (vaS g k g3 q3 r3 g5 k5 v) v/\KSome w ⟨g3,0,none⟩ v.ks:=by
 obtain⟨g,k,g3,q3,r3,g5,k5,lo1,lo2,w2,rfl,h1,h2,h3,h4,h5,h6,h7,h8,h9,h10,h11,h12,h13⟩:=h;have hS:SOwn w lo1 g3 q3 r3 v.ks v.ps v.ls:=h9.at h11;exact⟨g,k,g3,q3,r3,g5,k5,rfl,⟨SRow.own h7,SRow.own h8,hS.rows,SRow.own h12,SRow.own h13⟩,hS.ksome⟩
theorem kndVx (v:Vd) (hf:VFit v):Knd 17 1000 22 25 (VRx v) (VOx v) (fun _ _ _ _ _=>True):=by
 refine⟨?_,?_,?_,?_,?_,?_,?_,?_⟩
 ·rintro X cs ds ⟨g,k,g3,q3,r3,g5,k5,rfl,h1,_⟩ ⟨g',k',g3',q3',r3',g5',k5',rfl,h2,_⟩
  have h:=eqVault_yes v (vaS g k g3 q3 r3 g5 k5 v) (vaS g' k' g3' q3' r3' g5' k5' v) X h1 h2 hf;simp only[vaS] at h;exact h
 ·rintro lo N X cs k ⟨hN,b,rfl,ho⟩ hk1 hk2
  refine(markVaultX v b lo k (truncW X N) X ho (truncW_below X hN) hf hk1 hk2).mono ?_;rintro e X' ⟨⟨K,rfl,hK,hK2⟩,hb,hs⟩;rw[truncW_size X hN] at hs;exact⟨⟨K,rfl,hK,hK2,trivial⟩,hb,hs⟩
 ·rintro L X X' cs ⟨g,k,g3,q3,r3,g5,k5,rfl,h1,h2⟩ hb
  exact⟨g,k,g3,q3,r3,g5,k5,rfl,h1.keep hb,h2.keep h1.st.k hb⟩
 ·rintro L L' X cs ⟨g,k,g3,q3,r3,g5,k5,rfl,h1,h2⟩ hl
  exact⟨g,k,g3,q3,r3,g5,k5,rfl,h1.mono hl,h2⟩
 ·rintro lo N X X' cs ⟨hN,b,rfl,ho⟩ hz hs
  refine⟨Nat.le_trans hN hz,b,rfl,ho.keep ?_ (fun q h1 h2=> ?_)⟩
  ·rw[truncW_size X hN,truncW_size X' (Nat.le_trans hN hz)]
   exact Nat.le_refl _
  ·rw[truncW_size X hN] at h2
   rw[truncW_block X' (Nat.le_trans hN hz) h2,truncW_block X hN h2];exact hs q h1 h2
 ·rintro lo N X X' cs K _ _ _
  trivial
 ·rintro lo N X cs ⟨hN,b,rfl,ho⟩
  obtain⟨g,k,g3,q3,r3,g5,k5,rfl,h1,h2⟩:=ho.got;have hb:=truncW_below X hN;exact⟨hN,g,k,g3,q3,r3,g5,k5,rfl,(h1.keep hb).mono hb.size,h2.keep h1.st.k hb⟩
 ·rintro L X cs ⟨g,k,g3,q3,r3,g5,k5,rfl,_,_⟩
  exact⟨rfl,by simp[Value.oneCell']⟩
theorem toVault_x (v:Vd) (a:Va) (w X:World) (hr:VRows w w.heap.size a v) (hf:VFit v) (hX:Below w.heap.size w X):
 Calls prog 29 #[.agg #[.int .i64 v.wd,.int .i64 v.lim,.slice a.sa v.ss.length a.sc,.slice a.ta v.tt.length a.tc,.int .i64 v.sw,.int .i64 v.now,.int .i64 v.given,.int .i64 v.births,.slice a.ka v.ks.length a.kc,.slice a.pa v.ps.length a.pc,.slice a.la v.ls.length a.lc,.int .i64 v.ph,.slice a.qa v.qs.length a.qc,.slice a.ma v.ms.length a.mc,.int .i64 v.top,.int .i64 v.at_,.int .i64 v.ro]] X fun e X'=>∃cs:List Value,e=.returned (.agg cs.toArray)/\VRx v X'.heap.size X' cs/\VOx v X.heap.size X'.heap.size X' cs/\Below X.heap.size X X':=by
 refine(toVault_own v a X (hr.below' hX) hf).mono ?_;rintro e X' ⟨b,rfl,h1,h2,h3,h4⟩;obtain⟨g,k,g3,q3,r3,g5,k5,rfl,h5,h6⟩:=h3.got;refine⟨_,rfl,⟨g,k,g3,q3,r3,g5,k5,rfl,h5,h6⟩,⟨Nat.le_refl _,_,rfl,?_⟩,h4⟩;exact h3.keep (by rw[truncW_size X' (Nat.le_refl _)];exact Nat.le_refl _) (fun q _ hq=>truncW_block X' (Nat.le_refl _) hq)
def TRa (t:ByteArray) (refs:List ByteArray) (L:Nat) (X:World) (cs:List Value):Prop:=∃ra rc,cs=[.string t,.slice ra refs.length rc]/\SRow X L ra refs
def TOa (t:ByteArray) (refs ss:List ByteArray) (lo N:Nat) (X:World) (cs:List Value):Prop:=
 (N<=X.heap.size/\lo<=X.heap.size)/\ss.length=refs.length/\∃ra rc,cs=[.string t,.slice ra refs.length rc]/\WRow X lo ra ss/\(refs≠[]->∀b,aBlk ra=some b->b<N)
theorem TOa.keep {t:ByteArray} {refs ss:List ByteArray} {lo N:Nat} {X X':World} {cs:List Value} (h:TOa t refs ss lo N X cs) (hz:X.heap.size<=X'.heap.size) (hs:∀q,lo<=q->q<N->X'.heap[q]?=X.heap[q]?):TOa t refs ss lo N X' cs:=by
 obtain⟨hN,hl,ra,rc,rfl,h1,h2⟩:=h;refine⟨⟨Nat.le_trans hN.1 hz,Nat.le_trans hN.2 hz⟩,hl,ra,rc,rfl,?_,h2⟩;by_cases hne:refs=[]
 ·exact .inl (List.eq_nil_of_length_eq_zero (by rw[hl,hne];rfl))
 ·exact h1.stays hz (fun b hb q1 _=>hs b q1 (h2 hne b hb))
theorem kndT (t:ByteArray) (refs:List ByteArray) (hl:refs.length<=1000):Knd 2 1 33 34 (TRa t refs) (TOa t refs refs) (fun lo N X cs K=>K=1+refs.length/\TOa t refs (marks 1 refs.length) lo N X cs):=by
 refine⟨?_,?_,?_,?_,?_,?_,?_,?_⟩
 ·rintro X cs ds ⟨ra,rc,rfl,h1⟩ ⟨rb,rd,rfl,h2⟩
  exact eqThing_yes t ra rb rc rd refs X h1 h2 (by omega)
 ·rintro lo N X cs k ⟨hN,_,ra,rc,rfl,h1,h2⟩ hk1 hk2
  obtain rfl:k=1:=by omega
  refine(markThingW t lo 1 ra rc refs X h1 (by omega) (by omega)).mono ?_;rintro e X' ⟨rfl,hw,hg⟩;have hb:Below lo X X'/\∀q,N<=q->q<X.heap.size->X'.heap[q]?=X.heap[q]?:=by
   by_cases hne:refs=[]
   ·have hg':X.grownBy X' none:=by unfold gBlk at hg;rw[if_pos hne] at hg;exact hg
    exact⟨⟨hg'.os,hg'.tape,hg'.output,hg'.size,fun q hq=>hg'.block q (by omega) (by simp)⟩,fun q hq hq2=>hg'.block q hq2 (by simp)⟩
   ·have hg':X.grownBy X' (aBlk ra):=by unfold gBlk at hg;rw[if_neg hne] at hg;exact hg
    rcases h1 with h1|⟨b,off,rfl,q1,q2,_⟩
    ·exact absurd h1 hne
    ·exact⟨⟨hg'.os,hg'.tape,hg'.output,hg'.size,fun q hq=>hg'.block q (by omega) (fun e=>by have e2:q=b:=Option.some.inj e;omega)⟩,fun q hq hq2=>hg'.block q hq2 (fun e=>by have:=h2 hne q e.symm;omega)⟩
  exact⟨⟨1+refs.length,rfl,by omega,by omega,rfl,⟨Nat.le_trans hN.1 hg.size,Nat.le_trans hN.2 hg.size⟩,marks_length _ _,ra,rc,rfl,hw,h2⟩,hb⟩
 ·rintro L X X' cs ⟨ra,rc,rfl,h1⟩ hb
  exact⟨ra,rc,rfl,h1.below hb⟩
 ·rintro L L' X cs ⟨ra,rc,rfl,h1⟩ hl
  exact⟨ra,rc,rfl,h1.mono hl⟩
 ·intro lo N X X' cs h hz hs
  exact h.keep hz hs
 ·rintro lo N X X' cs K ⟨rfl,h⟩ hz hs
  exact⟨rfl,h.keep hz hs⟩
 ·rintro lo N X cs ⟨hN,_,ra,rc,rfl,h1,_⟩
  exact⟨hN.1,ra,rc,rfl,h1.row⟩
 ·rintro L X cs ⟨ra,rc,rfl,_⟩
  exact⟨rfl,by simp[Value.oneCell']⟩
theorem heldT (t:ByteArray) (refs:List ByteArray) (hl:refs.length<=1000) (lo N:Nat) (X:World) (cs:List Value) (K:Nat) (h:K=1+refs.length/\TOa t refs (marks 1 refs.length) lo N X cs):
 Calls prog 35 #[.agg cs.toArray,.int .i64 1] X fun e X'=>e=.returned (.int .i64 K)/\Below X.heap.size X X':=by
 obtain⟨rfl,hN,_,ra,rc,rfl,h1,_⟩:=h;refine(heldThing_any t ra refs.length rc 1 X h1.row (by omega) (by omega)).mono ?_;rintro e X' ⟨rfl,hb⟩;exact⟨by simp,hb⟩
def FTo (v:Vd) (s t:ByteArray) (refs:List ByteArray) (ok:Bool):Prop:=
 (¬VOk v/\t=⟨#[]⟩/\refs=[]/\ok=false)∨
 (VOk v/\((¬There v.ks s/\t=⟨#[]⟩/\refs=[]/\ok=false)∨(∃u∈v.ks,u.sum=s/\t=u.text/\refs=u.refs/\ok=true)))
theorem FTo.det {v:Vd} {s t t':ByteArray} {refs refs':List ByteArray} {ok ok':Bool} (h:FTo v s t refs ok) (k:FTo v s t' refs' ok'):t=t'/\refs=refs'/\ok=ok':=by
 rcases h with⟨h,rfl,rfl,rfl⟩|⟨h,h2⟩<;>rcases k with⟨k,rfl,rfl,rfl⟩|⟨k,k2⟩
 ·exact⟨rfl,rfl,rfl⟩
 ·exact absurd k h
 ·exact absurd h k
 ·rcases h2 with⟨h3,rfl,rfl,rfl⟩|⟨u,hu,hs,rfl,rfl,rfl⟩<;>rcases k2 with⟨k3,rfl,rfl,rfl⟩|⟨u',hu',hs',rfl,rfl,rfl⟩
  ·exact⟨rfl,rfl,rfl⟩
  ·exact absurd ⟨u',hu',hs'⟩ h3
  ·exact absurd ⟨u,hu,hs⟩ k3
  ·obtain⟨r,h⟩:=h
   have hn:=(h.run.ok (r0_ok h.wd.1 h.wd.2)).kso.nd;rw[h.same.2.1] at hn;obtain rfl:=sum_uniq hn hu hu' (hs.trans hs'.symm);exact⟨rfl,rfl,rfl⟩
theorem FTo.small {v:Vd} {s t:ByteArray} {refs:List ByteArray} {ok:Bool} (h:FTo v s t refs ok):refs.length<=30:=by
 rcases h with⟨_,_,rfl,_⟩|⟨⟨r,h⟩,⟨_,_,rfl,_⟩|⟨u,hu,_,_,rfl,_⟩⟩
 ·simp
 ·simp
 ·exact(h.run.ok (r0_ok h.wd.1 h.wd.2)).r30 u (by rw[h.same.2.1];exact hu)
theorem equalS_any (a b:Option Addr) (c d:Nat) (ss tt:List ByteArray) (w:World) (hr:SRow w w.heap.size a ss) (hq:SRow w w.heap.size b tt) (hl:ss.length<=100000) (hl':tt.length<=1048576):
 Calls prog 177 #[.slice a ss.length c,.slice b tt.length d] w fun e w'=>Says (ss=tt) w w' e:=by
 have HR:Hid (∀X,Below w.heap.size w X->SRow X w.heap.size a ss/\SRow X w.heap.size b tt):=fun X hX=>⟨hr.below hX,hq.below hX⟩;clear hr hq;by_cases hlen:ss.length=tt.length
 ·have hle:((ss.length:Int) !=(tt.length:Int))=false:=by simp;omega
  have HLen:Hid (ss.length=tt.length):=hlen;clear hlen;go_enter func177,ntmps177;go_wp2
  go_loopw [13] (fun i wr=>∃k:Nat,k<=ss.length/\i=.int .i64 k/\Hid (ss.take k=tt.take k/\Below w.heap.size w wr)) (fun i _=>ss.length -(intOf i).toNat)
  case atStart=>exact⟨0,Nat.zero_le _,rfl,⟨by simp,Below.refl _ _⟩⟩
  case round=>
   obtain⟨k,hk,rfl,HI⟩:=hrel;by_cases hlt:k<ss.length
   ·have hlt':k<tt.length:=by have:=HLen.out;omega
    obtain⟨rb,ro,ha,hrb,hrc⟩:=(HR.out wr HI.out.2).1.at hlt;obtain⟨qb,qo,hb,hqb,hqc⟩:=(HR.out wr HI.out.2).2.at hlt';subst ha hb;have c0:=hrc k _ (List.getElem?_eq_getElem hlt);have d0:=hqc k _ (List.getElem?_eq_getElem hlt');have hz:=HI.out.2.size;have hlr:rb<wr.heap.size:=Nat.lt_of_lt_of_le hrb hz;have hlq:qb<wr.heap.size:=Nat.lt_of_lt_of_le hqb hz
    have HT1:Hid (ss.take (k+1)=ss.take k++[ss[k]]):=List.take_succ_eq_append_getElem hlt;have HT2:Hid (tt.take (k+1)=tt.take k++[tt[k]]):=List.take_succ_eq_append_getElem hlt';have HN:Hid (∀x y,ss[k]?=some x->tt[k]?=some y->x≠y->ss≠tt):=fun x y h1 h2 hne e=>by
     subst e;rw[h1] at h2;exact hne (Option.some.inj h2)
    have HG1:Hid (ss[k]?=some ss[k]):=List.getElem?_eq_getElem hlt;have HG2:Hid (tt[k]?=some tt[k]):=List.getElem?_eq_getElem hlt';have hkt:(k:Int)<tt.length:=by omega
    clear hrc hqc;generalize ss[k]=x at *
    generalize tt[k]=y at *
    have HB:Hid (Below w.heap.size w wr):=HI.out.2;by_cases hxy:x=y
    ·subst hxy
     have hxe:(x.toList !=x.toList)=false:=by simp
     go_wp2
     go_region
     all_goals go_wp2
     all_goals exact⟨⟨k+1,by omega,by go_num,⟨by rw[HT1.out,HT2.out,HI.out.1],HB.out.drew⟩⟩,by simp[intOf];omega⟩
    ·have hxe:(x.toList==y.toList)=false:=beq_ne hxy
     have hxe2:(x.toList !=y.toList)=true:=by simp[bne,hxe]
     go_wp2
     go_region
     all_goals go_wp2
     all_goals go_ret
     all_goals exact Says.no (fun h=>HN.out x y HG1.out HG2.out hxy h) HB.out.drew
   ·obtain rfl:k=ss.length:=by omega
    have hfin:=HI.out.1;rw[List.take_of_length_le (Nat.le_refl _),List.take_of_length_le (by have:=HLen.out;omega)] at hfin;go_wp2;go_ret;exact Says.yes hfin HI.out.2
 ·have hle:((ss.length:Int)==(tt.length:Int))=false:=by simp;omega
  have hle2:((ss.length:Int) !=(tt.length:Int))=true:=by simp;omega
  go_enter func177,ntmps177;go_wp2;go_ret;exact Says.no (fun h=>hlen (by rw[h])) (Below.refl _ _)
theorem Kd.eq_iff (x y:Kd):x=y↔x.sum=y.sum/\x.born=y.born/\x.text=y.text/\x.refs=y.refs:=by
 cases x;cases y;simp
theorem sameKept_any (x y:Kd) (a b:Option Addr) (c d:Nat) (w:World) (hr:SRow w w.heap.size a x.refs) (hq:SRow w w.heap.size b y.refs) (hl:x.refs.length<=100000) (hl':y.refs.length<=1048576):
 Calls prog 150 #[.agg #[.string x.sum,.int .i64 x.born,.string x.text,.slice a x.refs.length c],.agg #[.string y.sum,.int .i64 y.born,.string y.text,.slice b y.refs.length d]] w fun e w'=>Says (x=y) w w' e:=by
 obtain⟨W,hW⟩:∃W,W=(w.alloc (.cells #[.string x.sum,.int .i64 x.born,.string x.text,.slice a x.refs.length c] 114)).alloc (.cells #[.string y.sum,.int .i64 y.born,.string y.text,.slice b y.refs.length d] 114):=⟨_,rfl⟩;have bW:=(al2 hW).1;have x0:=(al2 hW).2.2.1;have x1:CellsAt W (w.heap.size+1) [.string y.sum,.int .i64 y.born,.string y.text,.slice b y.refs.length d]:=by
  have h1:=CellsAt.new (w.alloc (.cells #[.string x.sum,.int .i64 x.born,.string x.text,.slice a x.refs.length c] 114)) [.string y.sum,.int .i64 y.born,.string y.text,.slice b y.refs.length d] 114;rw[World.size_alloc] at h1;rw[hW];exact h1
 have HQ:Hid _:=equalS_any a b c d x.refs y.refs W (hr.below' bW) (hq.below' bW) hl hl';obtain⟨u0,u1,u2,u3⟩:=CellsAt.c4 x0 0 1 2 3;obtain⟨v0,v1,v2,v3⟩:=CellsAt.c4 x1 0 1 2 3;have HW:Hid _:=hW;have HE:Hid _:=Kd.eq_iff x y;clear hW hr hq x0 x1;by_cases h1:x.sum=y.sum
 ·have e1:(x.sum.toList==y.sum.toList)=true:=by rw[h1];simp
  have H1:Hid (x.sum=y.sum):=h1;clear h1;by_cases h2:x.born=y.born
  ·have e2:(x.born==y.born)=true:=by simp[h2]
   have H2:Hid (x.born=y.born):=h2;clear h2;by_cases h3:x.text=y.text
   ·have e3:(x.text.toList==y.text.toList)=true:=by rw[h3];simp
    have H3:Hid (x.text=y.text):=h3;clear h3;go_enter func150,ntmps150;go_upto_region 1 with fail;rw[←HW.out];clear HW;go_wp2_with fail;refine Calls.mono HQ.out ?_;rintro e w1 ⟨bb,rfl,hbb,hb1⟩;have hB:Below w.heap.size w w1:=bW.trans (hb1.mono bW.size);clear u0 u1 u2 u3 v0 v1 v2 v3;go_wp2;go_ret;exact⟨bb,rfl,by rw[hbb,HE.out];exact⟨fun h=>⟨H1.out,H2.out,H3.out,h⟩,fun h=>h.2.2.2⟩,hB⟩
   ·have e3:(x.text.toList==y.text.toList)=false:=beq_ne h3
    go_enter func150,ntmps150;go_upto_region 1 with fail;rw[←HW.out];go_wp2_with fail
    all_goals (try go_wp2)
    all_goals (try go_ret)
    all_goals exact Says.no (fun h=>h3 (by rw[h])) bW
  ·have e2:(x.born==y.born)=false:=by simp[h2]
   go_enter func150,ntmps150;go_upto_region 1 with fail;rw[←HW.out];go_wp2_with fail
   all_goals (try go_wp2)
   all_goals (try go_ret)
   all_goals exact Says.no (fun h=>h2 (by rw[h])) bW
 ·have e1:(x.sum.toList==y.sum.toList)=false:=beq_ne h1
  go_enter func150,ntmps150;go_upto_region 1 with fail;rw[←HW.out];go_wp2_with fail
  all_goals (try go_wp2)
  all_goals (try go_ret)
  all_goals exact Says.no (fun h=>h1 (by rw[h])) bW
theorem equalKept_any (a b:Option Addr) (c d:Nat) (ks ls:List Kd) (w:World) (hr:KRow w w.heap.size a ks) (hq:KRow w w.heap.size b ls) (hl:ks.length<=100000) (hl':ls.length<=1048576) (h1:∀k∈ks,k.refs.length<=100000) (h2:∀k∈ls,k.refs.length<=1048576):
 Calls prog 149 #[.slice a ks.length c,.slice b ls.length d,.func (.func 150) #[] #[]] w fun e w'=>Says (ks=ls) w w' e:=by
 have HR:Hid (∀X,Below w.heap.size w X->KRow X w.heap.size a ks/\KRow X w.heap.size b ls):=fun X hX=>⟨hr.below hX,hq.below hX⟩;clear hr hq;by_cases hlen:ks.length=ls.length
 ·have hle:((ks.length:Int) !=(ls.length:Int))=false:=by simp;omega
  have HLen:Hid (ks.length=ls.length):=hlen;clear hlen;go_enter func149,ntmps149;go_wp2
  go_loopw [17] (fun i wr=>∃k:Nat,k<=ks.length/\i=.int .i64 k/\Hid (ks.take k=ls.take k/\Below w.heap.size w wr)) (fun i _=>ks.length -(intOf i).toNat)
  case atStart=>exact⟨0,Nat.zero_le _,rfl,⟨by simp,Below.refl _ _⟩⟩
  case round=>
   obtain⟨k,hk,rfl,HI⟩:=hrel;by_cases hlt:k<ks.length
   ·have hlt':k<ls.length:=by have:=HLen.out;omega
    obtain⟨rb,ro,ha,hrb,hrc⟩:=(HR.out wr HI.out.2).1.at hlt;obtain⟨qb,qo,hb,hqb,hqc⟩:=(HR.out wr HI.out.2).2.at hlt';subst ha hb;obtain⟨c0,c1,c2,ra,rc,c3,hra⟩:=hrc k _ (List.getElem?_eq_getElem hlt);obtain⟨d0,d1,d2,rb',rc',d3,hrb'⟩:=hqc k _ (List.getElem?_eq_getElem hlt');have hz:=HI.out.2.size;have hlr:rb<wr.heap.size:=Nat.lt_of_lt_of_le hrb hz
    have hlq:qb<wr.heap.size:=Nat.lt_of_lt_of_le hqb hz;have HT1:Hid (ks.take (k+1)=ks.take k++[ks[k]]):=List.take_succ_eq_append_getElem hlt;have HT2:Hid (ls.take (k+1)=ls.take k++[ls[k]]):=List.take_succ_eq_append_getElem hlt';have HN:Hid (∀x y,ks[k]?=some x->ls[k]?=some y->x≠y->ks≠ls):=fun x y h1 h2 hne e=>by
     subst e;rw[h1] at h2;exact hne (Option.some.inj h2)
    have HG1:Hid (ks[k]?=some ks[k]):=List.getElem?_eq_getElem hlt;have HG2:Hid (ls[k]?=some ls[k]):=List.getElem?_eq_getElem hlt';have hx1:=h1 _ (List.getElem_mem hlt);have hx2:=h2 _ (List.getElem_mem hlt');have hkt:(k:Int)<ls.length:=by omega
    clear hrc hqc;generalize ks[k]=x at *
    generalize ls[k]=y at *
    obtain⟨U,hU⟩:∃U,U=(wr.alloc (.cells #[.string x.sum,.int .i64 x.born,.string x.text,.slice ra x.refs.length rc] 114)).alloc (.cells #[.string y.sum,.int .i64 y.born,.string y.text,.slice rb' y.refs.length rc'] 114):=⟨_,rfl⟩;have bU:=(al2 hU).1;have HB:Hid (Below w.heap.size w U):=HI.out.2.trans (bU.mono hz);have xU:=(al2 hU).2.2.1
    have yU:CellsAt U (wr.heap.size+1) [.string y.sum,.int .i64 y.born,.string y.text,.slice rb' y.refs.length rc']:=by
     have h1:=CellsAt.new (wr.alloc (.cells #[.string x.sum,.int .i64 x.born,.string x.text,.slice ra x.refs.length rc] 114)) [.string y.sum,.int .i64 y.born,.string y.text,.slice rb' y.refs.length rc'] 114;rw[World.size_alloc] at h1;rw[hU];exact h1
    have HS:Hid _:=sameKept_any x y ra rb' rc rc' U (SRow.below' (SRow.mono hra hz) bU) (SRow.below' (SRow.mono hrb' hz) bU) hx1 hx2;obtain⟨m0,m1,m2,m3⟩:=CellsAt.c4 xU 0 1 2 3;obtain⟨n0,n1,n2,n3⟩:=CellsAt.c4 yU 0 1 2 3;have HU:Hid _:=hU;clear hU xU yU hra hrb' bU;go_upto_region 7 with fail;rw[←HU.out];clear HU c0 c1 c2 c3 d0 d1 d2 d3;go_wp2_with fail;refine Calls.mono HS.out ?_
    rintro e w1 ⟨bb,rfl,hbb,hb1⟩;have HB1:Hid (Below w.heap.size w w1):=HB.out.trans (hb1.mono HB.out.size);clear m0 m1 m2 m3 n0 n1 n2 n3 HS hb1;cases bb with
    |true=>
     have hxy:x=y:=hbb.1 rfl;go_wp2;exact⟨⟨k+1,by omega,by go_num,⟨by rw[HT1.out,HT2.out,HI.out.1,hxy],HB1.out⟩⟩,by simp[intOf];omega⟩
    |false=>
     have hxy:x≠y:=fun e=>by have:=hbb.2 e;cases this
     go_wp2;go_ret;exact Says.no (fun h=>HN.out x y HG1.out HG2.out hxy h) HB1.out
   ·obtain rfl:k=ks.length:=by omega
    have hfin:=HI.out.1;rw[List.take_of_length_le (Nat.le_refl _),List.take_of_length_le (by have:=HLen.out;omega)] at hfin;go_wp2;go_ret;exact Says.yes hfin HI.out.2
 ·have hle:((ks.length:Int)==(ls.length:Int))=false:=by simp;omega
  have hle2:((ks.length:Int) !=(ls.length:Int))=true:=by simp;omega
  go_enter func149,ntmps149;go_wp2;go_ret;exact Says.no (fun h=>hlen (by rw[h])) (Below.refl _ _)
theorem equalP_any (a b:Option Addr) (c d:Nat) (ss tt:List Pd) (w:World) (hr:PRow w w.heap.size a ss) (hq:PRow w w.heap.size b tt) (hl:ss.length<=100000) (hl':tt.length<=1048576):
 Calls prog 151 #[.slice a ss.length c,.slice b tt.length d] w fun e w'=>Says (ss=tt) w w' e:=by
 have HR:Hid (∀X,Below w.heap.size w X->PRow X w.heap.size a ss/\PRow X w.heap.size b tt):=fun X hX=>⟨hr.below hX,hq.below hX⟩;clear hr hq;by_cases hlen:ss.length=tt.length
 ·have hle:((ss.length:Int) !=(tt.length:Int))=false:=by simp;omega
  have HLen:Hid (ss.length=tt.length):=hlen;clear hlen;go_enter func151,ntmps151;go_wp2
  go_loopw [13] (fun i wr=>∃k:Nat,k<=ss.length/\i=.int .i64 k/\Hid (ss.take k=tt.take k/\Below w.heap.size w wr)) (fun i _=>ss.length -(intOf i).toNat)
  case atStart=>exact⟨0,Nat.zero_le _,rfl,⟨by simp,Below.refl _ _⟩⟩
  case round=>
   obtain⟨k,hk,rfl,HI⟩:=hrel;by_cases hlt:k<ss.length
   ·have hlt':k<tt.length:=by have:=HLen.out;omega
    obtain⟨rb,ro,ha,hrb,hrc⟩:=(HR.out wr HI.out.2).1.at hlt;obtain⟨qb,qo,hb,hqb,hqc⟩:=(HR.out wr HI.out.2).2.at hlt';subst ha hb;obtain⟨c0,c1⟩:=hrc k _ (List.getElem?_eq_getElem hlt);obtain⟨d0,d1⟩:=hqc k _ (List.getElem?_eq_getElem hlt');have hz:=HI.out.2.size;have hlr:rb<wr.heap.size:=Nat.lt_of_lt_of_le hrb hz;have hlq:qb<wr.heap.size:=Nat.lt_of_lt_of_le hqb hz
    have HT1:Hid (ss.take (k+1)=ss.take k++[ss[k]]):=List.take_succ_eq_append_getElem hlt;have HT2:Hid (tt.take (k+1)=tt.take k++[tt[k]]):=List.take_succ_eq_append_getElem hlt';have HN:Hid (∀x y,ss[k]?=some x->tt[k]?=some y->x≠y->ss≠tt):=fun x y h1 h2 hne e=>by
     subst e;rw[h1] at h2;exact hne (Option.some.inj h2)
    have HG1:Hid (ss[k]?=some ss[k]):=List.getElem?_eq_getElem hlt;have HG2:Hid (tt[k]?=some tt[k]):=List.getElem?_eq_getElem hlt';have hkt:(k:Int)<tt.length:=by omega
    clear hrc hqc;generalize ss[k]=x at *
    generalize tt[k]=y at *
    have HB:Hid (Below w.heap.size w wr):=HI.out.2;by_cases hxy:x=y
    ·subst hxy
     go_wp2
     go_region
     all_goals go_wp2
     all_goals exact⟨⟨k+1,by omega,by go_num,⟨by rw[HT1.out,HT2.out,HI.out.1],HB.out.drew⟩⟩,by simp[intOf];omega⟩
    ·by_cases hn:x.name=y.name
     ·have hs:¬x.sum.toList=y.sum.toList:=fun e=>hxy (by
       have e2:=toL_inj e;cases x;cases y;simp_all)
      have hn':x.name.toList=y.name.toList:=by rw[hn]
      have HX:Hid (x≠y):=hxy;clear hn hxy;go_wp2
      go_region
      all_goals go_wp2
      all_goals go_ret
      all_goals exact Says.no (fun h=>HN.out x y HG1.out HG2.out HX.out h) HB.out.drew
     ·have hn':¬x.name.toList=y.name.toList:=fun e=>hn (toL_inj e)
      have HX:Hid (x≠y):=hxy;clear hn hxy;go_wp2
      go_region
      all_goals go_wp2
      all_goals go_ret
      all_goals exact Says.no (fun h=>HN.out x y HG1.out HG2.out HX.out h) HB.out.drew
   ·obtain rfl:k=ss.length:=by omega
    have hfin:=HI.out.1;rw[List.take_of_length_le (Nat.le_refl _),List.take_of_length_le (by have:=HLen.out;omega)] at hfin;go_wp2;go_ret;exact Says.yes hfin HI.out.2
 ·have hle:((ss.length:Int)==(tt.length:Int))=false:=by simp;omega
  have hle2:((ss.length:Int) !=(tt.length:Int))=true:=by simp;omega
  go_enter func151,ntmps151;go_wp2;go_ret;exact Says.no (fun h=>hlen (by rw[h])) (Below.refl _ _)
theorem equalL_any (a b:Option Addr) (c d:Nat) (ss tt:List Ld) (w:World) (hr:LRow w w.heap.size a ss) (hq:LRow w w.heap.size b tt) (hl:ss.length<=100000) (hl':tt.length<=1048576):
 Calls prog 152 #[.slice a ss.length c,.slice b tt.length d] w fun e w'=>Says (ss=tt) w w' e:=by
 have HR:Hid (∀X,Below w.heap.size w X->LRow X w.heap.size a ss/\LRow X w.heap.size b tt):=fun X hX=>⟨hr.below hX,hq.below hX⟩;clear hr hq;by_cases hlen:ss.length=tt.length
 ·have hle:((ss.length:Int) !=(tt.length:Int))=false:=by simp;omega
  have HLen:Hid (ss.length=tt.length):=hlen;clear hlen;go_enter func152,ntmps152;go_wp2
  go_loopw [13] (fun i wr=>∃k:Nat,k<=ss.length/\i=.int .i64 k/\Hid (ss.take k=tt.take k/\Below w.heap.size w wr)) (fun i _=>ss.length -(intOf i).toNat)
  case atStart=>exact⟨0,Nat.zero_le _,rfl,⟨by simp,Below.refl _ _⟩⟩
  case round=>
   obtain⟨k,hk,rfl,HI⟩:=hrel;by_cases hlt:k<ss.length
   ·have hlt':k<tt.length:=by have:=HLen.out;omega
    obtain⟨rb,ro,ha,hrb,hrc⟩:=(HR.out wr HI.out.2).1.at hlt;obtain⟨qb,qo,hb,hqb,hqc⟩:=(HR.out wr HI.out.2).2.at hlt';subst ha hb;obtain⟨c0,c1,c2⟩:=hrc k _ (List.getElem?_eq_getElem hlt);obtain⟨d0,d1,d2⟩:=hqc k _ (List.getElem?_eq_getElem hlt');have hz:=HI.out.2.size;have hlr:rb<wr.heap.size:=Nat.lt_of_lt_of_le hrb hz;have hlq:qb<wr.heap.size:=Nat.lt_of_lt_of_le hqb hz
    have HT1:Hid (ss.take (k+1)=ss.take k++[ss[k]]):=List.take_succ_eq_append_getElem hlt;have HT2:Hid (tt.take (k+1)=tt.take k++[tt[k]]):=List.take_succ_eq_append_getElem hlt';have HN:Hid (∀x y,ss[k]?=some x->tt[k]?=some y->x≠y->ss≠tt):=fun x y h1 h2 hne e=>by
     subst e;rw[h1] at h2;exact hne (Option.some.inj h2)
    have HG1:Hid (ss[k]?=some ss[k]):=List.getElem?_eq_getElem hlt;have HG2:Hid (tt[k]?=some tt[k]):=List.getElem?_eq_getElem hlt';have hkt:(k:Int)<tt.length:=by omega
    clear hrc hqc;generalize ss[k]=x at *
    generalize tt[k]=y at *
    have HB:Hid (Below w.heap.size w wr):=HI.out.2;by_cases hxy:x=y
    ·subst hxy
     go_wp2
     go_region
     all_goals go_wp2
     all_goals exact⟨⟨k+1,by omega,by go_num,⟨by rw[HT1.out,HT2.out,HI.out.1],HB.out.drew⟩⟩,by simp[intOf];omega⟩
    ·have HX:Hid (x≠y):=hxy
     by_cases hn:x.num=y.num
     ·by_cases hs:x.sum=y.sum
      ·have ht:¬x.til=y.til:=fun e=>hxy (by
        cases x;cases y;simp_all)
       have hs':x.sum.toList=y.sum.toList:=by rw[hs]
       clear hs hxy;go_wp2
       go_region
       all_goals go_wp2
       all_goals go_ret
       all_goals exact Says.no (fun h=>HN.out x y HG1.out HG2.out HX.out h) HB.out.drew
      ·have hs':¬x.sum.toList=y.sum.toList:=fun e=>hs (toL_inj e)
       clear hs hxy;go_wp2
       go_region
       all_goals go_wp2
       all_goals go_ret
       all_goals exact Says.no (fun h=>HN.out x y HG1.out HG2.out HX.out h) HB.out.drew
     ·clear hxy
      go_wp2
      go_region
      all_goals go_wp2
      all_goals go_ret
      all_goals exact Says.no (fun h=>HN.out x y HG1.out HG2.out HX.out h) HB.out.drew
   ·obtain rfl:k=ss.length:=by omega
    have hfin:=HI.out.1;rw[List.take_of_length_le (Nat.le_refl _),List.take_of_length_le (by have:=HLen.out;omega)] at hfin;go_wp2;go_ret;exact Says.yes hfin HI.out.2
 ·have hle:((ss.length:Int)==(tt.length:Int))=false:=by simp;omega
  have hle2:((ss.length:Int) !=(tt.length:Int))=true:=by simp;omega
  go_enter func152,ntmps152;go_wp2;go_ret;exact Says.no (fun h=>hlen (by rw[h])) (Below.refl _ _)
end Go.Proofs.YtpekbmegopfhfaaGreatDoor
