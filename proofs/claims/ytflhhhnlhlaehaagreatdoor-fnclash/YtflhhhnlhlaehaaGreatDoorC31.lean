import Derived.Test.YtflhhhnlhlaehaaGreatDoorC30
import Derived.Deep.Slices
set_option maxRecDepth 100000
set_option maxHeartbeats 16000000
namespace Go.Proofs.YtflhhhnlhlaehaaGreatDoor
open Go.ChangeShapes Go.WideShapes Go.ChangeAt Go.RowKit _root_.Go.Proofs.Tryz
namespace ClashLaw
theorem Hb {P:Program} {w:World} {ops:Array Oper} {rest:List Oper} {o:Oper} {a:Act} {Q:Exit->Act->World->Prop} (zA:o.guard=none) (s x:Operand) (t u:TypeId)
 (ho:o.op=.call {callee:=.builtin .append,args:= #[s,x],argTypes:= #[t,u]}) {v xv v':Value} {w':World} (hs:a.eval s=v) (hx:a.eval x=xv)
 (hr:(Builtin.append_ #[t,u] o.type #[v,xv]).run P w=.ok v' w') (k:wpList P ops Q rest (a.put o.dst v') w'):wpList P ops Q (o::rest) a w:=
 wpList_step fun _ hK=>BB zA s x t u ho hs hx hr (hK _ _ k)
theorem RC {X:World} {b:Nat} {l cs:List Value} (h:Aa X b l) (hl:cs.length=l.length):Aa (X.setCells b 0 cs) b cs:=by
 cases l with
 |nil=>rw[List.eq_nil_of_length_eq_zero hl];exact h
 |cons a l=>exact h.setAll cs hl
theorem Sr {X:World} {b:Nat} {l:List Value} (h:Aa X b l):X.there b 0 l.length:=Aa.thereMid [] l [] (by simpa using h)
theorem ND {X Y:World} {b o:Nat} {vs:List Value} (h:X.rangeAt b o vs) (e:Y.heap[b]?=X.heap[b]?):Y.rangeAt b o vs:=fun j v hv=>(World.cell?_of_block (a:=⟨b,o+j,none⟩) e).trans (h j v hv)
def Ss (tx:ByteArray) (w:World) (pv k:Nat) (ua:Option Addr) (uc:Nat) (wr:World):Prop:=
 ∃(v:Vd) (vs:List Value),XJ tx k v/\DM v/\Aa wr pv vs/\Qx v wr.heap.size wr vs/\Ar wr 0 (.slice ua k uc) ((List.range k).map (xs tx))/\(∀g,Ax (.slice ua k uc)=some g->pv<g)/\Uq w wr/\w.heap.size<=pv
theorem walk (a:Option Addr) (n c:Nat) (w:World) (hE:Env w) (hn:n<=maxLen) (hb:n=0∨∃q off,a=some ⟨q,off,none⟩/\q<w.heap.size/\∀j,j<n->∃x:Int,w.cell? ⟨q,off+j,none⟩=some (.int .u8 x)/\0<=x/\x<256) (hc:n<=c):
 Calls prog 3 #[.slice a n c] w fun e w'=>e=.returned (.bool true)/\Uq w w':=by
 have HE:Hid _:=hE;have HD:Hid _:=Ha a n c w hn hb hc;clear hE hb hc;by_cases hlong:1048576<n
 ·have xN:(1048576:Int)<(n:Int):=by omega
  go_enter func3,ntmps3;go_wp2;go_ret;exact⟨rfl,Below.refl _ _⟩
 have xN:¬(1048576:Int)<(n:Int):=by omega
 go_enter func3,ntmps3;go_wp2_with fail;refine Calls.mono HD.o ?_;rintro e w1 ⟨⟨T,wd,rfl,hT,_,_⟩,xI⟩;have zT:Hid (Uq w w1):=xI;clear xI HD xN hlong
 go_upto_if 24 with fail
 go_cut [3,24] (fun t _ wx=>∃tx:ByteArray,t=.string tx/\tx.size<=100/\wx=w1)
 case first=>
  by_cases hlt:100<T.size
  ·have vO:decide ((100:Int)<(T.size:Int))=true:=by simp;omega
   go_wp2;go_meet;exact⟨_,rfl,by simp;omega,rfl⟩
  ·have vO:decide ((100:Int)<(T.size:Int))=false:=by simp;omega
   go_wp2;go_meet;exact⟨_,rfl,by omega,rfl⟩
 case rest=>
 obtain⟨tx,rfl,vS,xS⟩:=hcut;rw[xS];clear xS wc hT
 as_aux_lemma=>
 go_wp2_with fail;refine(OG 1 1000000 none none 0 0 [] [] w1 (.inl rfl) (.inl rfl) (Nat.zero_le _) (Nat.zero_le _) (by simp) (by simp) (HE.o.below zT.o)).mono ?_;rintro e w2 ⟨c0,v,S,U,T,P,L,Q,M,rs,zN,rfl,ha,yB⟩;obtain⟨rfl,hJ⟩:=XJ.open (tx:=tx) zN;obtain⟨vs,zG⟩:∃t,t=Dx v S U T P L Q M:=⟨_,rfl⟩;have zF:=ha.vra;rw[←zG] at zF;have zD:=GX zF
 rw[show(#[.int .i64 v.wd,.int .i64 v.lim,S,U,.int .i64 v.sw,.int .i64 v.now,.int .i64 v.given,.int .i64 v.births,T,P,L,.int .i64 v.ph,Q,M,.int .i64 v.top,.int .i64 v.at_,.int .i64 v.ro]:Array Value)=vs.toArray from by rw[zG];rfl];have hf:DM v:=zN.fit ⟨Nat.zero_le _,Nat.zero_le _,by simp,by simp⟩
 obtain⟨W3,yM⟩:∃Y,Y=(w2.alloc (.cells #[.int .i64 0,.int .i64 0,.slice none 0 0,.slice none 0 0,.int .i64 0,.int .i64 0,.int .i64 0,.int .i64 0,.slice none 0 0,.slice none 0 0,.slice none 0 0,.int .i64 0,.slice none 0 0,.slice none 0 0,.int .i64 0,.int .i64 0,.int .i64 0] 36)).setCells w2.heap.size 0 vs.toArray.toList:=⟨_,rfl⟩
 have zR:=boxed (X:=w2) (cs:=vs) (z:=[.int .i64 0,.int .i64 0,.slice none 0 0,.slice none 0 0,.int .i64 0,.int .i64 0,.int .i64 0,.int .i64 0,.slice none 0 0,.slice none 0 0,.slice none 0 0,.int .i64 0,.slice none 0 0,.slice none 0 0,.int .i64 0,.int .i64 0,.int .i64 0]) (T:=36) (by rw[zD.1];rfl)
 have e3:W3=(w2.alloc (.cells [.int .i64 0,.int .i64 0,.slice none 0 0,.slice none 0 0,.int .i64 0,.int .i64 0,.int .i64 0,.int .i64 0,.slice none 0 0,.slice none 0 0,.slice none 0 0,.int .i64 0,.slice none 0 0,.slice none 0 0,.int .i64 0,.int .i64 0,.int .i64 0].toArray 36)).setCells w2.heap.size 0 vs:=yM;rw[←e3] at zR;obtain⟨x3,b3,z3⟩:=zR
 have zU:Hid ((w2.alloc (.cells #[.int .i64 0,.int .i64 0,.slice none 0 0,.slice none 0 0,.int .i64 0,.int .i64 0,.int .i64 0,.int .i64 0,.slice none 0 0,.slice none 0 0,.slice none 0 0,.int .i64 0,.slice none 0 0,.slice none 0 0,.int .i64 0,.int .i64 0,.int .i64 0] 36)).there w2.heap.size 0 vs.toArray.size/\vs.length=17/\∀x∈vs,x.oneCell'=true):=⟨by rw[show vs.toArray.size=17 from by rw[List.size_toArray];exact zD.1];exact(Aa.new w2 [.int .i64 0,.int .i64 0,.slice none 0 0,.slice none 0 0,.int .i64 0,.int .i64 0,.int .i64 0,.int .i64 0,.slice none 0 0,.slice none 0 0,.slice none 0 0,.int .i64 0,.slice none 0 0,.slice none 0 0,.int .i64 0,.int .i64 0,.int .i64 0] 36).there,zD⟩
 have xD:=yB.trans (b3.mono yB.size);have yK:=zT.o.trans (xD.mono zT.o.size);have vL:w.heap.size<=w2.heap.size:=Uz zT.o.size yB.size;have yY:Hid (∀X,Uq W3 X->W3.heap.size<X.heap.size->Ss tx w w2.heap.size 0 (some ⟨W3.heap.size,0,none⟩) 0 X):=fun X hX hx0=>by
  obtain⟨a',h1,h2⟩:=zF;refine⟨v,vs,hJ,hf,Aa.same x3 (hX.block _ (by omega)),⟨a',h1,h2.below' (b3.trans (hX.mono b3.size))⟩,?_,?_,yK.trans (hX.mono yK.size),vL⟩
  ·exact .inr ⟨W3.heap.size,0,0,rfl,Nat.zero_le _,hx0,Nat.zero_le _,Nat.zero_le _,fun j hj=>absurd hj (by omega),fun i s hs=>by simp at hs⟩
  ·intro g hg
   have:W3.heap.size=g:=Option.some.inj hg;omega
 have xA:Hid _:=yM;clear yM e3 x3 b3 z3 zG zF zD hf ha yB zN hJ xD yK;go_upto_region 7 with(refine wpList_store_mid rfl 36 _ _ rfl w2.heap.size 0 vs.toArray rfl rfl zU.o.1 (by rw[List.size_toArray,zU.o.2.1];kernel_rfl) (all_oneCell_toArray zU.o.2.2) ?_);rw[←xA.o];clear xA zU
 as_aux_lemma=>
 go_wp2
 go_loopw [7,8] (fun us i wr=>∃(k:Nat) (ua:Option Addr) (uc:Nat),k<=40/\i=.int .i64 k/\us=.slice ua k uc/\Hid (Ss tx w w2.heap.size k ua uc wr)) (fun _ i _=>40 -(intOf i).toNat)
 case atStart=>exact⟨0,_,_,Nat.zero_le _,rfl,rfl,yY.o _ (Ur) (by simp)⟩
 case round=>
  clear yY;obtain⟨k,ua,uc,hk,rfl,rfl,HI⟩:=hrel;by_cases hlt:k<40
  ·obtain⟨bt,zI⟩:∃t:ByteArray,t=⟨#[UInt8.ofNat k,UInt8.ofNat (3 *k)]⟩:=⟨_,rfl⟩
   have vN:bt.size=2:=by rw[zI];rfl
   have xK:Sem.run prog (convert 22 9 (.slice (some ⟨wr.heap.size,0,none⟩) 2 2)) (wr.alloc (.cells #[.int .u8 k,.int .u8 (3 *k)] 5))=.ok (.string bt) (wr.alloc (.cells #[.int .u8 k,.int .u8 (3 *k)] 5)):=by
    rw[zI];exact run_convert_bytes_back (P:=prog) (wr.alloc (.cells #[.int .u8 k,.int .u8 (3 *k)] 5)) 22 9 5 ⟨wr.heap.size,0,none⟩ 2 [UInt8.ofNat k,UInt8.ofNat (3 *k)] underlying22 underlying5 underlying9 (fun j hj=>by
     match j,hj with
     |0,_=>simp[go_sem,Addr.add];omega
     |1,_=>simp[go_sem,Addr.add];omega)
   obtain⟨W4,yN⟩:∃Y,Y=(wr.alloc (.cells #[.int .u8 k,.int .u8 (3 *k)] 5)).alloc (.cells #[.string (tx++bt),.slice none 0 0] 40):=⟨_,rfl⟩;have zX:Hid (Aa W4 (wr.heap.size+1) [.string (xt tx k),.slice none 0 0]/\Uq wr W4/\W4.heap.size=wr.heap.size+2):=by
    have h2:=Ba (k:=[.string (tx++bt),.slice none 0 0]) (l:=[.int .u8 k,.int .u8 (3 *k)]) yN;refine⟨?_,h2.1,h2.2.1⟩;rw[←OI,←zI];exact h2.2.2.2
   have xB:Hid _:=yN;clear yN zI;go_upto_region 14 with fail;rw[←xB.o];clear xB xK
   as_aux_lemma=>
   obtain⟨v,vs,hJ,hf,xV,zF,hO,zC,zH,yE⟩:=HI.o;have b4:=zX.o.2.1;have z4:=zX.o.2.2;have zD:=GX zF;obtain⟨b,zG,zA⟩:=zF;have zM:w2.heap.size<wr.heap.size:=xV.ltL zD.1;have HV:Hid (Aa W4 w2.heap.size vs/\vs.length=17):=⟨Aa.same xV (b4.block _ zM),zD.1⟩;have zY:=zH.trans (b4.mono zH.size)
   have HP:Hid (Calls prog 6 #[.agg vs.toArray,.agg #[.string (xt tx k),.slice none 0 0],.int .i64 1000] W4 (FX v (xe tx k) W4)):=by
    rw[zG];exact Rw v b (xt tx k) none 0 [] 1000 W4 (zA.below' b4) hf (HE.o.below zY) (.inl rfl) (.inr hJ.ph) (Nat.zero_le _) (by rw[Jt];unfold maxLen;omega)
   have HJ:Hid (XJ tx k v/\DM v):=⟨hJ,hf⟩;have zJ:Hid (∀X,Uq W4 X->Aa X w2.heap.size vs/\Aa X (wr.heap.size+1) [.string (xt tx k),.slice none 0 0]/\BV X X.heap.size b v/\Ar X 0 (.slice ua k uc) ((List.range k).map (xs tx))/\Uq w X):=fun X hX=>by
    have yP:=b4.trans (hX.mono b4.size);exact⟨Aa.same xV (yP.block _ zM),Aa.below zX.o.1 hX,zA.below' yP,hO.below yP,zY.trans (hX.mono zY.size)⟩
   have vH:Hid (vs=Dx v (.slice b.sa v.ss.length b.sc) (.slice b.ta v.tt.length b.tc) (.slice b.ka v.ks.length b.kc) (.slice b.pa v.ps.length b.pc) (.slice b.la v.ls.length b.lc) (.slice b.qa v.qs.length b.qc) (.slice b.ma v.ms.length b.mc)):=zG
   have vE:Hid ((∀g,Ax (.slice ua k uc)=some g->w2.heap.size<g)/\w.heap.size<=w2.heap.size/\w2.heap.size<wr.heap.size/\W4.heap.size=wr.heap.size+2/\∀g,Ax (.slice ua k uc)=some g->g<wr.heap.size):=⟨zC,yE,zM,z4,fun g hg=>(hO.blk hg).2⟩;have HOr:Hid _:=hO;clear HI hJ hf xV zG zA hO zC zH yE b4 z4 zD zM zY;go_wp2_with (first
    |refine wpList_load_mid rfl 36 _ rfl w2.heap.size 0 rfl vs _ HV.o.1.range underlying36 rfl (by rw[HV.o.2];kernel_rfl) ?_
    |refine wpList_load_mid rfl 40 _ rfl (wr.heap.size+1) 0 rfl [.string (xt tx k),.slice none 0 0] _ zX.o.1.range underlying40 rfl (by kernel_rfl) ?_)
   refine Calls.mono HP.o ?_;rintro e w4 ⟨d,S,U,T,P,L,Q,M,rs,zN,rfl,ha,yC⟩;have vR:=XJ.step vS hlt HJ.o.1 zN;have zQ:=Ju ha;obtain⟨D,hD⟩:∃t,t=GN d S U T P L Q M:=⟨_,rfl⟩;rw[←hD] at zQ;rw[←hD]
   obtain⟨W5,yO⟩:∃Y,Y=(w4.alloc (.cells #[.int .i64 0,.int .i64 0,.int .i64 0,.slice none 0 0,.slice none 0 0,.int .i64 0,.int .i64 0,.int .i64 0,.int .i64 0,.slice none 0 0,.slice none 0 0,.slice none 0 0,.int .i64 0,.slice none 0 0,.slice none 0 0,.int .i64 0,.int .i64 0,.int .i64 0,.string ⟨#[]⟩,.int .i64 0,.string ⟨#[]⟩,.string ⟨#[]⟩] 42)).setCells w4.heap.size 0 D.toArray.toList:=⟨_,rfl⟩
   have zR:=boxed (X:=w4) (cs:=D) (z:=Cs) (T:=42) (by rw[zQ.1];rfl);have e5:W5=(w4.alloc (.cells Cs.toArray 42)).setCells w4.heap.size 0 D:=yO;rw[←e5] at zR;obtain⟨x5,b5,z5⟩:=zR
   have zV:Hid ((w4.alloc (.cells #[.int .i64 0,.int .i64 0,.int .i64 0,.slice none 0 0,.slice none 0 0,.int .i64 0,.int .i64 0,.int .i64 0,.int .i64 0,.slice none 0 0,.slice none 0 0,.slice none 0 0,.int .i64 0,.slice none 0 0,.slice none 0 0,.int .i64 0,.int .i64 0,.int .i64 0,.string ⟨#[]⟩,.int .i64 0,.string ⟨#[]⟩,.string ⟨#[]⟩] 42)).there w4.heap.size 0 D.toArray.size/\D.length=22/\∀x∈D,x.oneCell'=true):=⟨by rw[show D.toArray.size=22 from by rw[List.size_toArray];exact zQ.1];exact(Aa.new w4 Cs 42).there,zQ⟩
   have yJ:=yC.trans (b5.mono yC.size);have xW:Aa W5 w4.heap.size (dL d (Dx d.v S U T P L Q M)):=by rw[hD] at x5;exact x5
   have zB:Hid (∀X,Uq W5 X->(X.cell? ⟨w4.heap.size,0,none⟩=some (.int .i64 d.c)/\X.cell? ⟨w4.heap.size,18,none⟩=some (.string d.s)/\X.cell? ⟨w4.heap.size,20,none⟩=some (.string d.a)/\X.cell? ⟨w4.heap.size,21,none⟩=some (.string d.b))/\X.rangeAt w4.heap.size 1 (Dx d.v S U T P L Q M)/\Uq W4 X/\AV X W4.heap.size S U T P L Q M rs d.v):=fun X hX=>by
    obtain⟨q0,q1,_,q3,q4,q5⟩:=SP (Aa.below (v:=.int .i64 d.c) xW hX) (by rfl);exact⟨⟨q0,q1,q3,q4⟩,q5,yJ.trans (hX.mono yJ.size),(ha.below b5).below hX⟩
   have vK:Hid (W4.heap.size<=w4.heap.size/\W5.heap.size=w4.heap.size+1):=⟨yC.size,z5⟩;have xM:=zN.fit HJ.o.2;have vA:Hid (DM d.v):=xM;obtain⟨⟨q0,q1,q2,q3⟩,_⟩:=zB.o W5 (Below.refl _ _);have xC:Hid _:=yO;clear yO e5 x5 xW b5 z5 yJ yC ha zN hD zQ xM HP
   go_upto_region 15 with(refine wpList_store_mid rfl 42 _ _ rfl w4.heap.size 0 D.toArray rfl rfl zV.o.1 (by rw[List.size_toArray,zV.o.2.1];kernel_rfl) (all_oneCell_toArray zV.o.2.2) ?_);rw[←xC.o];clear xC zV
   as_aux_lemma=>
   rcases vR with⟨hc,yS,yQ,yD,j,hj,yR,yT⟩|⟨hc,xL,xF⟩
   ·have xJ:(d.c==3)=true:=by rw[hc];rfl
    have vV:(d.a.toList !=d.b.toList)=true:=by
     have:=Ck yQ;simp[bne,this]
    have vM:¬d.a.toList=d.b.toList:=fun e=>yQ (toList_inj e);have yZ:Hid (BE d.a.data.toList 1=xs tx k):=by
     show BE d.a.data.toList 1=xs tx k;rw[←yT,yR];rfl
    have vG:Hid (BE d.b.data.toList 1=xs tx k):=by
     show BE d.b.data.toList 1=xs tx k;rw[yD];rfl
    have yI:Hid (d.a.size<=maxLen/\d.b.size<=maxLen):=by
     rw[yR,yD];exact⟨Uz (EG _ _ _) (by unfold maxLen;omega),Uz (EG _ _ _) (by unfold maxLen;omega)⟩
    have xZ:Hid (Am (xt tx k) [] 1=d.b):=yD.symm;have vC:Hid (xs tx k∈(List.range k).map (xs tx)):=List.mem_map.2 ⟨j,List.mem_range.2 hj,yT⟩;have vJ:Hid (∀X,Uq W5 X->Calls prog 10 #[.agg (Dx d.v S U T P L Q M).toArray,.agg vs.toArray] X fun e X'=>e=.returned (.bool true)/\Uq X X'):=fun X hX=>by
     obtain⟨_,_,h3,h4⟩:=zB.o X hX;obtain⟨a1,h5,h6⟩:=h4.vra;obtain⟨_,_,h7,_,_⟩:=zJ.o X h3;obtain⟨r,vP⟩:=HJ.o.1.ok;have ho:=vP.rokW;rw[h5,vH.o,yS];rw[yS] at h6;exact NC v a1 b X h6 h7 HJ.o.2 ⟨by have:=ho.kso.len;omega,by have:=ho.np;omega,by have:=ho.nl;omega⟩ (fun k hk=>by have:=ho.r30 k hk;omega)
    clear hc yS yQ yD hj yR yT q1;have yX:∀{X:World},Uq W5 X->Calls prog 9 #[.slice ua k uc,.string (xs tx k)] X fun e X'=>e=.returned (.bool true)/\Uq X X':=fun {X} hX=>by
     have hr:=(zJ.o X (zB.o X hX).2.2.1).2.2.2.1.got;have h:=Rz ua uc ((List.range k).map (xs tx)) (xs tx k) X hr (by simp;omega) vC.o;rw[List.length_map,List.length_range] at h;exact h
    go_upto_region 16 with fail;clear q0 xJ;refine wp_region_held_drew (S:=fun X=>Uq W5 X) (by kernel_rfl) ((Below.refl W5.heap.size W5).drew) (fun hS=> ?_)
    refine wpAnyH_take (i:=0) (oi:=⟨some 55,.fieldAddr 42 (.tmp 10) 4,0, "laws.go:668",#[],none⟩) (v:=.pointer (some ⟨w4.heap.size,20,none⟩)) rfl (by kernel_rfl) (by kernel_rfl) (by kernel_rfl) (fun _ _ _ h=>h) (Or.inl ⟨by rfl,fun _ _=>by go_simp⟩) hS ?_;try simp only[Act.put,Al]
    refine wpAnyH_take (i:=1) (oi:=⟨some 56,.load 9 (.tmp 55),9, "laws.go:668",#[⟨0,.data⟩],none⟩) (v:=.string d.a) rfl (by kernel_rfl) (by kernel_rfl) (by kernel_rfl) (fun _ _ _ h=>h) (Or.inl ⟨by rfl,fun X hX=>by have h1:=(zB.o X hX).1.2.2.1;go_simp⟩) hS ?_;try simp only[Act.put,Al]
    refine wpAnyH_take (i:=2) (oi:=⟨some 57,.fieldAddr 42 (.tmp 10) 5,0, "laws.go:668",#[],none⟩) (v:=.pointer (some ⟨w4.heap.size,21,none⟩)) rfl (by kernel_rfl) (by kernel_rfl) (by kernel_rfl) (fun _ _ _ h=>h) (Or.inl ⟨by rfl,fun _ _=>by go_simp⟩) hS ?_;try simp only[Act.put,Al]
    refine wpAnyH_take (i:=3) (oi:=⟨some 58,.load 9 (.tmp 57),9, "laws.go:668",#[⟨2,.data⟩],none⟩) (v:=.string d.b) rfl (by kernel_rfl) (by kernel_rfl) (by kernel_rfl) (fun _ _ _ h=>h) (Or.inl ⟨by rfl,fun X hX=>by have h1:=(zB.o X hX).1.2.2.2;go_simp⟩) hS ?_;try simp only[Act.put,Al]
    refine wpAnyH_take (i:=4) (oi:=⟨some 59,.binOp .neq 9 (.tmp 56) (.tmp 58) 9,4, "laws.go:668",#[⟨1,.data⟩,⟨3,.data⟩],none⟩) (v:=.bool true) rfl (by kernel_rfl) (by kernel_rfl) (by kernel_rfl) (fun _ _ _ h=>h) (Or.inl ⟨by rfl,fun _ _=>by go_simp⟩) hS ?_;try simp only[Act.put,Al]
    refine wpAnyH_take (i:=5) (oi:=⟨some 60,.move (.tmp 59),4, "laws.go:668",#[⟨4,.data⟩],none⟩) (v:=.bool true) rfl (by kernel_rfl) (by kernel_rfl) (by kernel_rfl) (fun _ _ _ h=>h) (Or.inl ⟨by rfl,fun _ _=>by go_simp⟩) hS ?_;try simp only[Act.put,Al]
    refine wpAnyH_take (i:=6) (oi:=⟨some 61,.fieldAddr 42 (.tmp 10) 4,0, "laws.go:668",#[⟨5,.guard⟩],some (5,true)⟩) (v:=.pointer (some ⟨w4.heap.size,20,none⟩)) rfl (by kernel_rfl) (by kernel_rfl) (by kernel_rfl) (fun _ _ _ h=>h) (Or.inl ⟨by rfl,fun _ _=>by go_simp⟩) hS ?_;try simp only[Act.put,Al]
    refine wpAnyH_take (i:=7) (oi:=⟨some 62,.load 9 (.tmp 61),9, "laws.go:668",#[⟨6,.data⟩,⟨5,.guard⟩],some (5,true)⟩) (v:=.string d.a) rfl (by kernel_rfl) (by kernel_rfl) (by kernel_rfl) (fun _ _ _ h=>h) (Or.inl ⟨by rfl,fun X hX=>by have h1:=(zB.o X hX).1.2.2.1;go_simp⟩) hS ?_;try simp only[Act.put,Al]
    refine wpAnyH_take (i:=9) (oi:=⟨some 64,.fieldAddr 42 (.tmp 10) 5,0, "laws.go:668",#[⟨5,.guard⟩],some (5,true)⟩) (v:=.pointer (some ⟨w4.heap.size,21,none⟩)) rfl (by kernel_rfl) (by kernel_rfl) (by kernel_rfl) (fun _ _ _ h=>h) (Or.inl ⟨by rfl,fun _ _=>by go_simp⟩) hS ?_;try simp only[Act.put,Al]
    refine wpAnyH_take (i:=10) (oi:=⟨some 65,.load 9 (.tmp 64),9, "laws.go:668",#[⟨9,.data⟩,⟨5,.guard⟩],some (5,true)⟩) (v:=.string d.b) rfl (by kernel_rfl) (by kernel_rfl) (by kernel_rfl) (fun _ _ _ h=>h) (Or.inl ⟨by rfl,fun X hX=>by have h1:=(zB.o X hX).1.2.2.2;go_simp⟩) hS ?_;try simp only[Act.put,Al]
    refine wpAnyH_ready (rs:=[8]) (by kernel_rfl) (by simp) ?_;refine AllReadyH.cons (o:=⟨some 63,.call ⟨.value (.func 7),#[.tmp 62,.const (.int .i64 1)],#[9,3]⟩,9, "laws.go:668",#[⟨7,.data⟩,⟨5,.chain⟩,⟨5,.guard⟩],some (5,true)⟩) rfl (fun K hK=> ?_) AllReadyH.nil;rw[if_pos (by rfl)];go_simp;refine(FM d.a 1 _ yI.o.1 (by omega) (by omega)).mono ?_;rintro e y1 ⟨rfl,b1⟩
    rw[show(1:Int).toNat=1 from rfl,yZ.o];try go_simp
    refine hK.out _ _ (hS.trans (b1.mono hS.size)) (fun hS1=> ?_);clear hK K;try simp only[Act.put,Al]
    refine wpAnyH_ready (rs:=[11]) (by kernel_rfl) (by simp) ?_;refine AllReadyH.cons (o:=⟨some 66,.call ⟨.value (.func 7),#[.tmp 65,.const (.int .i64 1)],#[9,3]⟩,9, "laws.go:668",#[⟨10,.data⟩,⟨8,.chain⟩,⟨5,.guard⟩],some (5,true)⟩) rfl (fun K hK=> ?_) AllReadyH.nil;rw[if_pos (by rfl)];go_simp;refine(FM d.b 1 _ yI.o.2 (by omega) (by omega)).mono ?_;rintro e y2 ⟨rfl,b2⟩
    rw[show(1:Int).toNat=1 from rfl,vG.o];try go_simp
    refine hK.out _ _ (hS1.trans (b2.mono hS1.size)) (fun hS2=> ?_);clear hK K;try simp only[Act.put,Al]
    refine wpAnyH_take (i:=12) (oi:=⟨some 67,.binOp .eql 9 (.tmp 63) (.tmp 66) 9,4, "laws.go:668",#[⟨8,.data⟩,⟨11,.data⟩,⟨5,.guard⟩],some (5,true)⟩) (v:=.bool true) rfl (by kernel_rfl) (by kernel_rfl) (by kernel_rfl) (fun _ _ _ h=>h) (Or.inl ⟨by rfl,fun _ _=>by go_simp⟩) hS2 ?_;try simp only[Act.put,Al]
    refine wpAnyH_take (i:=13) (oi:=⟨some 68,.pick (.tmp 60) (.tmp 67) (.const (.bool false)),4, "laws.go:668",#[⟨5,.data⟩,⟨12,.data⟩],none⟩) (v:=.bool true) rfl (by kernel_rfl) (by kernel_rfl) (by kernel_rfl) (fun _ _ _ h=>h) (Or.inl ⟨by rfl,fun _ _=>by go_simp⟩) hS2 ?_;try simp only[Act.put,Al]
    refine wpAnyH_take (i:=14) (oi:=⟨some 69,.move (.tmp 68),4, "laws.go:668",#[⟨13,.data⟩,⟨11,.chain⟩],none⟩) (v:=.bool true) rfl (by kernel_rfl) (by kernel_rfl) (by kernel_rfl) (fun _ _ _ h=>h) (Or.inl ⟨by rfl,fun _ _=>by go_simp⟩) hS2 ?_;try simp only[Act.put,Al]
    refine wpAnyH_take (i:=15) (oi:=⟨some 70,.fieldAddr 42 (.tmp 10) 5,0, "laws.go:668",#[⟨14,.guard⟩],some (14,true)⟩) (v:=.pointer (some ⟨w4.heap.size,21,none⟩)) rfl (by kernel_rfl) (by kernel_rfl) (by kernel_rfl) (fun _ _ _ h=>h) (Or.inl ⟨by rfl,fun _ _=>by go_simp⟩) hS2 ?_;try simp only[Act.put,Al]
    refine wpAnyH_take (i:=16) (oi:=⟨some 71,.load 9 (.tmp 70),9, "laws.go:668",#[⟨15,.data⟩,⟨14,.guard⟩],some (14,true)⟩) (v:=.string d.b) rfl (by kernel_rfl) (by kernel_rfl) (by kernel_rfl) (fun _ _ _ h=>h) (Or.inl ⟨by rfl,fun X hX=>by have h1:=(zB.o X hX).1.2.2.2;go_simp⟩) hS2 ?_;try simp only[Act.put,Al]
    refine wpAnyH_take (i:=17) (oi:=⟨some 72,.load 40 (.tmp 9),40, "laws.go:668",#[⟨14,.guard⟩],some (14,true)⟩) (v:=.agg #[.string (xt tx k),.slice none 0 0]) rfl (by kernel_rfl) (by kernel_rfl) (by kernel_rfl) (fun _ _ _ h=>h) (yieldsIf_load_mid (by rfl) 40 _ rfl (wr.heap.size+1) 0 rfl [.string (xt tx k),.slice none 0 0] _ (fun X h=>(zJ.o X (zB.o X h).2.2.1).2.1.range) underlying40 rfl (by kernel_rfl)) hS2 ?_
    try simp only[Act.put,Al]
    refine wpAnyH_ready (rs:=[18]) (by kernel_rfl) (by simp) ?_;refine AllReadyH.cons (o:=⟨some 73,.call ⟨.value (.func 8),#[.tmp 72,.const (.int .i64 1)],#[40,3]⟩,9, "laws.go:668",#[⟨17,.data⟩,⟨14,.chain⟩,⟨14,.guard⟩],some (14,true)⟩) rfl (fun K hK=> ?_) AllReadyH.nil;rw[if_pos (by rfl)];go_simp
    refine(JD (xt tx k) none 0 [] 1 _ (.inl rfl) (Nat.zero_le _) (by rw[Jt];unfold maxLen;omega)).mono ?_;rintro e y3 ⟨rfl,b3⟩;rw[xZ.o];try go_simp
    refine hK.out _ _ (hS2.trans (b3.mono hS2.size)) (fun hS3=> ?_);clear hK K;try simp only[Act.put,Al]
    refine wpAnyH_take (i:=19) (oi:=⟨some 74,.binOp .eql 9 (.tmp 71) (.tmp 73) 9,4, "laws.go:668",#[⟨16,.data⟩,⟨18,.data⟩,⟨14,.guard⟩],some (14,true)⟩) (v:=.bool true) rfl (by kernel_rfl) (by kernel_rfl) (by kernel_rfl) (fun _ _ _ h=>h) (Or.inl ⟨by rfl,fun _ _=>by go_simp⟩) hS3 ?_;try simp only[Act.put,Al]
    refine wpAnyH_take (i:=20) (oi:=⟨some 75,.pick (.tmp 69) (.tmp 74) (.const (.bool false)),4, "laws.go:668",#[⟨14,.data⟩,⟨19,.data⟩],none⟩) (v:=.bool true) rfl (by kernel_rfl) (by kernel_rfl) (by kernel_rfl) (fun _ _ _ h=>h) (Or.inl ⟨by rfl,fun _ _=>by go_simp⟩) hS3 ?_;try simp only[Act.put,Al]
    refine wpAnyH_take (i:=21) (oi:=⟨some 76,.move (.tmp 75),4, "laws.go:668",#[⟨20,.data⟩,⟨18,.chain⟩],none⟩) (v:=.bool true) rfl (by kernel_rfl) (by kernel_rfl) (by kernel_rfl) (fun _ _ _ h=>h) (Or.inl ⟨by rfl,fun _ _=>by go_simp⟩) hS3 ?_;try simp only[Act.put,Al]
    refine wpAnyH_take (i:=22) (oi:=⟨some 77,.move (.tmp 7),25, "laws.go:668",#[⟨21,.guard⟩],some (21,true)⟩) (v:=.slice ua k uc) rfl (by kernel_rfl) (by kernel_rfl) (by kernel_rfl) (fun _ _ _ h=>h) (Or.inl ⟨by rfl,fun _ _=>by go_simp⟩) hS3 ?_;try simp only[Act.put,Al]
    refine wpAnyH_take (i:=23) (oi:=⟨some 78,.fieldAddr 42 (.tmp 10) 4,0, "laws.go:668",#[⟨21,.guard⟩],some (21,true)⟩) (v:=.pointer (some ⟨w4.heap.size,20,none⟩)) rfl (by kernel_rfl) (by kernel_rfl) (by kernel_rfl) (fun _ _ _ h=>h) (Or.inl ⟨by rfl,fun _ _=>by go_simp⟩) hS3 ?_;try simp only[Act.put,Al]
    refine wpAnyH_take (i:=24) (oi:=⟨some 79,.load 9 (.tmp 78),9, "laws.go:668",#[⟨23,.data⟩,⟨21,.guard⟩],some (21,true)⟩) (v:=.string d.a) rfl (by kernel_rfl) (by kernel_rfl) (by kernel_rfl) (fun _ _ _ h=>h) (Or.inl ⟨by rfl,fun X hX=>by have h1:=(zB.o X hX).1.2.2.1;go_simp⟩) hS3 ?_;try simp only[Act.put,Al]
    refine wpAnyH_ready (rs:=[25]) (by kernel_rfl) (by simp) ?_;refine AllReadyH.cons (o:=⟨some 80,.call ⟨.value (.func 7),#[.tmp 79,.const (.int .i64 1)],#[9,3]⟩,9, "laws.go:668",#[⟨24,.data⟩,⟨21,.chain⟩,⟨21,.guard⟩],some (21,true)⟩) rfl (fun K hK=> ?_) AllReadyH.nil;rw[if_pos (by rfl)];go_simp;refine(FM d.a 1 _ yI.o.1 (by omega) (by omega)).mono ?_;rintro e y4 ⟨rfl,b4⟩
    rw[show(1:Int).toNat=1 from rfl,yZ.o];try go_simp
    refine hK.out _ _ (hS3.trans (b4.mono hS3.size)) (fun hS4=> ?_);clear hK K;try simp only[Act.put,Al]
    refine wpAnyH_ready (rs:=[26]) (by kernel_rfl) (by simp) ?_;refine AllReadyH.cons (o:=⟨some 81,.call ⟨.value (.func 9),#[.tmp 77,.tmp 80],#[25,9]⟩,4, "laws.go:668",#[⟨22,.data⟩,⟨25,.data⟩,⟨25,.chain⟩,⟨21,.guard⟩],some (21,true)⟩) rfl (fun K hK=> ?_) AllReadyH.nil;rw[if_pos (by rfl)];go_simp;refine(yX hS4).mono ?_;rintro e y5 ⟨rfl,b5⟩;try go_simp
    refine hK.out _ _ (hS4.trans (b5.mono hS4.size)) (fun hS5=> ?_);clear hK K;try simp only[Act.put,Al]
    refine wpAnyH_take (i:=27) (oi:=⟨some 82,.pick (.tmp 76) (.tmp 81) (.const (.bool false)),4, "laws.go:668",#[⟨21,.data⟩,⟨26,.data⟩],none⟩) (v:=.bool true) rfl (by kernel_rfl) (by kernel_rfl) (by kernel_rfl) (fun _ _ _ h=>h) (Or.inl ⟨by rfl,fun _ _=>by go_simp⟩) hS5 ?_;try simp only[Act.put,Al]
    refine wpAnyH_take (i:=28) (oi:=⟨some 83,.move (.tmp 82),4, "laws.go:668",#[⟨27,.data⟩,⟨26,.chain⟩],none⟩) (v:=.bool true) rfl (by kernel_rfl) (by kernel_rfl) (by kernel_rfl) (fun _ _ _ h=>h) (Or.inl ⟨by rfl,fun _ _=>by go_simp⟩) hS5 ?_;try simp only[Act.put,Al]
    refine wpAnyH_take (i:=29) (oi:=⟨some 84,.fieldAddr 42 (.tmp 10) 1,0, "laws.go:668",#[⟨28,.guard⟩],some (28,true)⟩) (v:=.pointer (some ⟨w4.heap.size,1,none⟩)) rfl (by kernel_rfl) (by kernel_rfl) (by kernel_rfl) (fun _ _ _ h=>h) (Or.inl ⟨by rfl,fun _ _=>by go_simp⟩) hS5 ?_;try simp only[Act.put,Al]
    refine wpAnyH_take (i:=30) (oi:=⟨some 85,.load 36 (.tmp 84),36, "laws.go:668",#[⟨29,.data⟩,⟨28,.guard⟩],some (28,true)⟩) (v:=.agg (Dx d.v S U T P L Q M).toArray) rfl (by kernel_rfl) (by kernel_rfl) (by kernel_rfl) (fun _ _ _ h=>h) (yieldsIf_load_mid (by rfl) 36 _ rfl w4.heap.size 1 rfl (Dx d.v S U T P L Q M) _ (fun X h=>(zB.o X h).2.1) underlying36 rfl (by kernel_rfl)) hS5 ?_
    try simp only[Act.put,Al]
    refine wpAnyH_take (i:=31) (oi:=⟨some 86,.load 36 (.tmp 5),36, "laws.go:668",#[⟨28,.guard⟩],some (28,true)⟩) (v:=.agg vs.toArray) rfl (by kernel_rfl) (by kernel_rfl) (by kernel_rfl) (fun _ _ _ h=>h) (yieldsIf_load_mid (by rfl) 36 _ rfl w2.heap.size 0 rfl vs _ (fun X h=>(zJ.o X (zB.o X h).2.2.1).1.range) underlying36 rfl (by rw[HV.o.2];kernel_rfl)) hS5 ?_;try simp only[Act.put,Al]
    refine wpAnyH_ready (rs:=[32]) (by kernel_rfl) (by simp) ?_;refine AllReadyH.cons (o:=⟨some 87,.call ⟨.value (.func 10),#[.tmp 85,.tmp 86],#[36,36]⟩,4, "laws.go:668",#[⟨30,.data⟩,⟨31,.data⟩,⟨28,.chain⟩,⟨28,.guard⟩],some (28,true)⟩) rfl (fun K hK=> ?_) AllReadyH.nil;rw[if_pos (by rfl)];go_simp;refine(vJ.o _ hS5).mono ?_;rintro e y6 ⟨rfl,b6⟩;try go_simp
    refine hK.out _ _ (hS5.trans (b6.mono hS5.size)) (fun hS6=> ?_);clear hK K;try simp only[Act.put,Al]
    have vU:=hS6;refine wpAnyH_take (i:=33) (oi:=⟨some 88,.pick (.tmp 83) (.tmp 87) (.const (.bool false)),4, "laws.go:668",#[⟨28,.data⟩,⟨32,.data⟩],none⟩) (v:=.bool true) rfl (by kernel_rfl) (by kernel_rfl) (by kernel_rfl) (fun _ _ _ h=>h) (Or.inl ⟨by rfl,fun _ _=>by go_simp⟩) hS6 ?_;try simp only[Act.put,Al]
    refine wpAnyH_take (i:=34) (oi:=⟨some 2,.assign (.tmp 88),4, "laws.go:668",#[⟨33,.data⟩,⟨32,.chain⟩,⟨0,.phase⟩,⟨1,.phase⟩,⟨2,.phase⟩,⟨3,.phase⟩,⟨4,.phase⟩,⟨5,.phase⟩,⟨6,.phase⟩,⟨7,.phase⟩,⟨8,.phase⟩,⟨9,.phase⟩,⟨10,.phase⟩,⟨11,.phase⟩,⟨12,.phase⟩,⟨13,.phase⟩,⟨14,.phase⟩,⟨15,.phase⟩,⟨16,.phase⟩,⟨17,.phase⟩,⟨18,.phase⟩,⟨19,.phase⟩,⟨20,.phase⟩,⟨21,.phase⟩,⟨22,.phase⟩,⟨23,.phase⟩,⟨24,.phase⟩,⟨25,.phase⟩,⟨26,.phase⟩,⟨27,.phase⟩,⟨28,.phase⟩,⟨29,.phase⟩,⟨30,.phase⟩,⟨31,.phase⟩,⟨32,.phase⟩,⟨33,.phase⟩],none⟩) (v:=.bool true) rfl (by kernel_rfl) (by kernel_rfl) (by kernel_rfl) (fun _ _ _ h=>h) (Or.inl ⟨by rfl,fun _ _=>by go_simp⟩) hS6 ?_
    try simp only[Act.put,Al]
    refine wpAnyH_done (by kernel_rfl) ?_ _;go_wp2;go_ret;exact⟨rfl,(zJ.o _ (zB.o _ vU).2.2.1).2.2.2.2⟩
   ·have xJ:(d.c==3)=false:=by rw[hc];rfl
    have vW:(d.c==0)=true:=by rw[hc];rfl
    have xG:=(zJ.o W5 (zB.o W5 (Below.refl _ _)).2.2.1).2.2.2.1;have bA:Below W5.heap.size W5 (W5.alloc (.cells #[.string d.s] 9)):=Ur;obtain⟨V',w6,hr,zZ,zO,yU⟩:=Rt (W5.alloc (.cells #[.string d.s] 9)) 0 (.slice ua k uc) ((List.range k).map (xs tx)) (xG.below bA) ⟨W5.heap.size,0,none⟩ 1 d.s (by simp[go_sem]) (by simp;omega) (Nat.zero_le _) 25
    rw[xL,show(List.range k).map (xs tx)++[xs tx k]=(List.range (k+1)).map (xs tx) from by rw[List.range_succ,List.map_append];rfl] at zZ;obtain⟨xT,xU,xH,_⟩:=zZ.row;rw[List.length_map,List.length_range] at xH;subst xH;have zC:=vE.o;have vT:=vK.o
    have t6:Tn (Ax (.slice ua k uc)).toList W5 w6:=((Tn.of (V:=[]) bA).mono (by simp)).trans ⟨zO.os,zO.tape,zO.output,zO.size,fun g hg hn=>zO.block g hg (fun e=>hn (by rw[←e];simp))⟩;obtain⟨_,xE,yL,zP⟩:=zB.o W5 (Below.refl _ _);have yW:∀g,wr.heap.size<=g->g∉(Ax (.slice ua k uc)).toList:=fun g hg hin=>by
     have:=zC.2.2.2.2 g (by simpa using hin);omega
    have xQ:w2.heap.size∉(Ax (.slice ua k uc)).toList:=fun hin=>by
     have:=zC.1 _ (by simpa using hin);omega
    have z6:=t6.size;have xP:Aa w6 w2.heap.size vs:=Aa.same (zJ.o W5 yL).1 (t6.block _ (by omega) xQ);have vl:(Dx d.v S U T P L Q M).length=17:=rfl;have r6:w6.rangeAt w4.heap.size 1 (Dx d.v S U T P L Q M):=ND xE (t6.block _ (by omega) (yW _ (by omega)));obtain⟨vd,yF⟩:∃t,t=Dx d.v S U T P L Q M:=⟨_,rfl⟩;have yG:vd.length=17/\∀u∈vd,u.oneCell'=true:=by rw[yF];exact GX zP.vra
    rw[←yF] at r6;obtain⟨W7,yA⟩:∃Y,Y=w6.setCells w2.heap.size 0 vd.toArray.toList:=⟨_,rfl⟩;have t7:Tn [w2.heap.size] w6 W7:=by rw[yA];exact AB _ _ _ _
    have x7:Aa W7 w2.heap.size vd:=by rw[yA];exact RC xP (by rw[yG.1];exact HV.o.2.symm)
    have zW:Hid (w6.there w2.heap.size 0 vd.toArray.size/\vd.length=17/\∀u∈vd,u.oneCell'=true):=by
     refine⟨?_,yG⟩;rw[show vd.toArray.size=vs.length from by rw[List.size_toArray,yG.1];exact HV.o.2.symm];exact Sr xP
    have yH:Hid (Ss tx w w2.heap.size (k+1) xT xU W7):=by
     have b7:=(zJ.o W5 yL).2.2.2.2;refine⟨d.v,vd,xF,vA.o,x7,?_,zZ.turn t7 (fun g hg hin=> ?_),fun g hg=> ?_,(b7.trans (t6.below b7.size (fun g hg=> ?_))).trans (t7.below (Uz b7.size t6.size) (by simp;exact zC.2.1)),zC.2.1⟩
     ·rw[yF]
      refine((zP.stays t6 (fun g hg hin=> ?_)).stays t7 (fun g hg hin=> ?_)).vra
      ·have:=zP.lo g hin
       exact yW g (by omega) hg
      ·have:=zP.lo g hin
       simp at hg;omega
     ·have:w2.heap.size<g:=by
       rcases yU with h|h
       ·rw[h] at hg
        exact zC.1 g hg
       ·rw[h] at hg
        have:_=g:=Option.some.inj hg;simp at this;omega
      simp at hin;omega
     ·rcases yU with h|h
      ·rw[h] at hg
       exact zC.1 g hg
      ·rw[h] at hg
       have:_=g:=Option.some.inj hg;simp at this;omega
     ·have:=zC.1 g (by simpa using hg)
      omega
    have vF:Hid (w6.rangeAt w4.heap.size 1 vd):=r6;have vI:Hid _:=yA;have vY:W5.cell? ⟨w4.heap.size,18,none⟩=some (.string d.s):=q1;clear hc xL xF xG zZ zO yU zC vT t6 xE yL zP yW xQ z6 xP vl r6 yF yG yA t7 x7 bA q1 q2 q3;go_wp2_with (first
     |refine Hb rfl _ _ _ _ rfl (by rfl) (by rfl) hr ?_
     |refine wpList_load_mid rfl 36 _ rfl w4.heap.size 1 rfl vd _ vF.o underlying36 rfl (by rw[zW.o.2.1];kernel_rfl) ?_
     |(refine wpList_store_mid rfl 36 _ _ rfl w2.heap.size 0 vd.toArray rfl rfl zW.o.1 (by rw[List.size_toArray,zW.o.2.1];kernel_rfl) (all_oneCell_toArray zW.o.2.2) ?_;rw[←vI.o]))
    exact⟨⟨k+1,xT,xU,by omega,by go_num,by simp,yH.o⟩,by simp[intOf];omega⟩
  ·obtain rfl:k=40:=by omega
   obtain⟨w0,rfl⟩:∃t,t=wr:=⟨_,rfl⟩;clear hlt hk;obtain⟨v,vs,hJ,hf,xV,zF,hO,zC,zH,yE⟩:=HI.o;have zD:=GX zF;obtain⟨b,zG,zA⟩:=zF;have zM:w2.heap.size<w0.heap.size:=xV.ltL zD.1;have vD:Hid (vs.length=17):=zD.1;have HR:Hid (∀X,Uq w0 X->Aa X w2.heap.size vs/\Ad X X.heap.size ua ((List.range 40).map (xs tx))/\Uq w X):=fun X hX=>⟨Aa.same xV (hX.block _ zM),(hO.below hX).got,zH.trans (hX.mono zH.size)⟩
   have HF:Hid (∀X s,Uq w0 X->Calls prog 11 #[.agg vs.toArray,.string s] X fun e X'=>∃(t:ByteArray) (ra:Option Addr) (refs:List ByteArray) (rc:Nat) (ok:Bool),OR v s t refs ok/\e=.returned (.tuple #[.agg #[.string t,.slice ra refs.length rc],.bool ok])/\Uq X X'):=fun X s hX=>by
    rw[zG];refine(Nu v b s X (zA.below' hX) hf (HE.o.below (zH.trans (hX.mono zH.size)))).mono ?_;rintro e X' ⟨t,ra,refs,rc,ok,h1,h2,_,h3⟩;exact⟨t,ra,refs,rc,ok,h1,h2,h3⟩
   have HG:Hid (∀j t refs ok,j<40->OR v (xs tx j) t refs ok->t=xt tx j/\ok=true):=fun j t refs ok hj h=>by
    rcases h with⟨h,_⟩|⟨_,⟨h,_⟩|⟨u,hu,hs,rfl,_,rfl⟩⟩
    ·exact absurd hJ.ok h
    ·obtain⟨q,hq,e1,_⟩:=hJ.has j hj
     exact absurd ⟨q,hq,e1⟩ h
    ·exact⟨hJ.fetch hj hu hs,rfl⟩
   clear HI hJ hf xV zG zA hO zC zH yE zD zM
   as_aux_lemma=>
   go_wp2
   go_loopw [11] (fun j wr=>∃m:Nat,m<=40/\j=.int .i64 m/\Hid (Uq w0 wr)) (fun j _=>40 -(intOf j).toNat)
   case atStart=>exact⟨0,Nat.zero_le _,rfl,Below.refl _ _⟩
   case round=>
    obtain⟨m,hm,rfl,zE⟩:=hrel;by_cases hlt:m<40
    ·have zS:=(HR.o wr zE.o).2.1
     have xO:m<((List.range 40).map (xs tx)).length:=by simp;exact hlt
     obtain⟨rb,ro,ha,vQ,xR⟩:=zS.at xO;subst ha;have xY:Hid (∀X,Uq wr X->X.cell? ⟨rb,ro+m,none⟩=some (.string (xs tx m))):=fun X hX=>(hX.cell (p:=⟨rb,ro+m,none⟩) vQ).trans (xR m (xs tx m) (by simp[hlt]));clear zS xO xR;go_upto_region 24 with fail
     go_cut [12,13] (fun p th wy=>∃(pb:Nat) (ra:Option Addr) (refs:List ByteArray) (rc:Nat),p=.pointer (some ⟨pb,0,none⟩)/\th=.bool true/\Hid (Aa wy pb [.string (xt tx m),.slice ra refs.length rc]/\Uq wr wy))
     case first=>
      refine wp_region_held_drew (S:=fun X=>Uq wr X) (by kernel_rfl) ((Below.refl wr.heap.size wr).drew) (fun hS=> ?_)
      refine wpAnyH_take (i:=0) (oi:=⟨some 106,.load 36 (.tmp 5),36, "laws.go:677",#[],none⟩) (v:=.agg vs.toArray) rfl (by kernel_rfl) (by kernel_rfl) (by kernel_rfl) (fun _ _ _ h=>h) (yieldsIf_load_mid (by rfl) 36 _ rfl w2.heap.size 0 rfl vs _ (fun X h=>(HR.o X (zE.o.trans (h.mono zE.o.size))).1.range) underlying36 rfl (by rw[vD.o];kernel_rfl)) hS ?_;try simp only[Act.put,Al]
      refine wpAnyH_take (i:=1) (oi:=⟨some 107,.move (.tmp 7),25, "laws.go:677",#[],none⟩) (v:=.slice (some ⟨rb,ro,none⟩) 40 uc) rfl (by kernel_rfl) (by kernel_rfl) (by kernel_rfl) (fun _ _ _ h=>h) (Or.inl ⟨by rfl,fun _ _=>by go_simp⟩) hS ?_;try simp only[Act.put,Al]
      refine wpAnyH_take (i:=2) (oi:=⟨some 108,.move (.tmp 11),3, "laws.go:677",#[],none⟩) (v:=.int .i64 m) rfl (by kernel_rfl) (by kernel_rfl) (by kernel_rfl) (fun _ _ _ h=>h) (Or.inl ⟨by rfl,fun _ _=>by go_simp⟩) hS ?_;try simp only[Act.put,Al]
      refine wpAnyH_take (i:=3) (oi:=⟨some 109,.indexAddr 25 (.tmp 107) (.tmp 108),0, "laws.go:677",#[⟨1,.data⟩,⟨2,.data⟩],none⟩) (v:=.pointer (some ⟨rb,ro+m,none⟩)) rfl (by kernel_rfl) (by kernel_rfl) (by kernel_rfl) (fun _ _ _ h=>h) (Or.inl ⟨by rfl,fun _ _=>by go_simp⟩) hS ?_;try simp only[Act.put,Al]
      refine wpAnyH_take (i:=4) (oi:=⟨some 110,.load 9 (.tmp 109),9, "laws.go:677",#[⟨3,.data⟩],none⟩) (v:=.string (xs tx m)) rfl (by kernel_rfl) (by kernel_rfl) (by kernel_rfl) (fun _ _ _ h=>h) (Or.inl ⟨by rfl,fun X hX=>by have h1:=xY.o X hX;go_simp⟩) hS ?_;try simp only[Act.put,Al]
      refine wpAnyH_ready (rs:=[5,9]) (by kernel_rfl) (by simp) ?_;refine AllReadyH.cons (o:=⟨some 111,.call ⟨.value (.func 11),#[.tmp 106,.tmp 110],#[36,9]⟩,48, "laws.go:677",#[⟨0,.data⟩,⟨4,.data⟩],none⟩) rfl (fun K hK=> ?_) (AllReadyH.cons (o:=⟨some 12,.alloc 40,0, "laws.go:677",#[],none⟩) rfl (fun K hK=> ?_) AllReadyH.nil)
      ·go_simp
       refine(HF.o _ (xs tx m) (zE.o.trans (((Below.refl wr.heap.size wr).drew).mono zE.o.size))).mono ?_;rintro e y1 ⟨t,ra,refs,rc,ok,zK,rfl,b1⟩;obtain⟨rfl,rfl⟩:=HG.o m t refs ok hlt zK;try go_simp
       refine hK.out _ _ (hS.trans (b1.mono hS.size)) (fun hS1=> ?_);clear hK K;try simp only[Act.put,Al]
       have ky:Below wr.heap.size wr y1:=(Below.refl wr.heap.size wr).drew.trans b1;refine wpAnyH_take (i:=6) (oi:=⟨some 105,.move (.tmp 111),48, "laws.go:677",#[⟨5,.data⟩],none⟩) (v:=.tuple #[.agg #[.string (xt tx m),.slice ra refs.length rc],.bool true]) rfl (by kernel_rfl) (by kernel_rfl) (by kernel_rfl) (fun _ _ _ h=>h) (Or.inl ⟨by rfl,fun _ _=>by go_simp⟩) hS1 ?_
       try simp only[Act.put,Al]
       refine wpAnyH_take (i:=7) (oi:=⟨some 112,.extract (.tmp 105) 0,40, "laws.go:677",#[⟨6,.data⟩],none⟩) (v:=.agg #[.string (xt tx m),.slice ra refs.length rc]) rfl (by kernel_rfl) (by kernel_rfl) (by kernel_rfl) (fun _ _ _ h=>h) (Or.inl ⟨by rfl,fun _ _=>by go_simp⟩) hS1 ?_;try simp only[Act.put,Al]
       refine wpAnyH_take (i:=8) (oi:=⟨some 113,.extract (.tmp 105) 1,4, "laws.go:677",#[⟨6,.data⟩,{on:=10,ground:=Ground.gcOnly Departure.lateStores}],none⟩) (v:=.bool true) rfl (by kernel_rfl) (by kernel_rfl) (by kernel_rfl) (fun _ _ _ h=>h) (Or.inl ⟨by rfl,fun _ _=>by go_simp⟩) hS1 ?_;try simp only[Act.put,Al]
       refine wpAnyH_ready (rs:=[9]) (by kernel_rfl) (by simp) ?_;refine AllReadyH.cons (o:=⟨some 12,.alloc 40,0, "laws.go:677",#[],none⟩) rfl (fun K hK=> ?_) AllReadyH.nil;go_simp;refine hK.out _ _ (hS1.trans ((Ur).mono hS1.size)) (fun hS2=> ?_);clear hK K;try simp only[Act.put,Al]
       have nB:(y1.alloc (.cells #[.string ⟨#[]⟩,.slice none 0 0] 40)).heap[y1.heap.size]?=some (.cells [.string ⟨#[]⟩,.slice none 0 0].toArray 40 (0,0)):=heap_alloc_new _ _;have yV:=ky.size;have zL:(#[.string (xt tx m),.slice ra refs.length rc]:Array Value).all (·.oneCell')=true:=by simp[Value.oneCell']
       refine wpAnyH_ready (rs:=[10]) (by kernel_rfl) (by simp) ?_;refine AllReadyH.cons (o:=⟨none,.store 40 (.tmp 12) (.tmp 112),0, "laws.go:677",#[⟨9,.data⟩,⟨7,.data⟩,⟨5,.chain⟩,⟨0,.phase⟩,⟨1,.phase⟩,⟨2,.phase⟩,⟨3,.phase⟩,⟨4,.phase⟩,⟨5,.phase⟩,⟨6,.phase⟩,⟨7,.phase⟩,{on:=8,ground:=Ground.textOnly Departure.lateStores},⟨9,.phase⟩],none⟩) rfl (fun K hK=> ?_) AllReadyH.nil;rw[if_pos (by rfl)]
       refine wp_store_mid 40 _ _ rfl y1.heap.size 0 #[.string (xt tx m),.slice ra refs.length rc] rfl rfl (Aa.ofB (l:=[.string ⟨#[]⟩,.slice none 0 0]) nB).there (by kernel_rfl) zL ?_;refine hK.out _ _ (hS2.trans ((AB _ _ _ _).below hS2.size (fun b hb=>by rw[List.mem_singleton] at hb;rw[hb];exact yV))) (fun hS3=> ?_);clear hK K;try simp only[Act.put]
       refine wpAnyH_take (i:=11) (oi:=⟨some 13,.assign (.tmp 113),4, "laws.go:677",#[⟨8,.data⟩,⟨10,.chain⟩,⟨0,.phase⟩,⟨1,.phase⟩,⟨2,.phase⟩,⟨3,.phase⟩,⟨4,.phase⟩,⟨5,.phase⟩,⟨6,.phase⟩,⟨7,.phase⟩,⟨8,.phase⟩,⟨9,.phase⟩,⟨10,.phase⟩],none⟩) (v:=.bool true) rfl (by kernel_rfl) (by kernel_rfl) (by kernel_rfl) (fun _ _ _ h=>h) (Or.inl ⟨by rfl,fun _ _=>by go_simp⟩) hS3 ?_;try simp only[Act.put,Al]
       refine wpAnyH_done (by kernel_rfl) ?_ _;go_wp2_with fail;go_meet;exact⟨y1.heap.size,ra,refs,rc,rfl,rfl,(Aa.ofB (l:=[.string ⟨#[]⟩,.slice none 0 0]) nB).setAll [.string (xt tx m),.slice ra refs.length rc] rfl,hS3⟩
      ·go_simp
       refine hK.out _ _ (hS.trans ((Ur).mono hS.size)) (fun hS1=> ?_);clear hK K;try simp only[Act.put,Al]
       have kb:Below wr.heap.size wr (wr.alloc (.cells #[.string ⟨#[]⟩,.slice none 0 0] 40)).drew:=(Ur).drew;refine wpAnyH_ready (rs:=[5]) (by kernel_rfl) (by simp) ?_;refine AllReadyH.cons (o:=⟨some 111,.call ⟨.value (.func 11),#[.tmp 106,.tmp 110],#[36,9]⟩,48, "laws.go:677",#[⟨0,.data⟩,⟨4,.data⟩],none⟩) rfl (fun K hK=> ?_) AllReadyH.nil;go_simp
       refine(HF.o _ (xs tx m) (zE.o.trans (kb.mono zE.o.size))).mono ?_;rintro e y1 ⟨t,ra,refs,rc,ok,zK,rfl,b1⟩;obtain⟨rfl,rfl⟩:=HG.o m t refs ok hlt zK;try go_simp
       refine hK.out _ _ (hS1.trans (b1.mono hS1.size)) (fun hS2=> ?_);clear hK K;try simp only[Act.put,Al]
       refine wpAnyH_take (i:=6) (oi:=⟨some 105,.move (.tmp 111),48, "laws.go:677",#[⟨5,.data⟩],none⟩) (v:=.tuple #[.agg #[.string (xt tx m),.slice ra refs.length rc],.bool true]) rfl (by kernel_rfl) (by kernel_rfl) (by kernel_rfl) (fun _ _ _ h=>h) (Or.inl ⟨by rfl,fun _ _=>by go_simp⟩) hS2 ?_;try simp only[Act.put,Al]
       refine wpAnyH_take (i:=7) (oi:=⟨some 112,.extract (.tmp 105) 0,40, "laws.go:677",#[⟨6,.data⟩],none⟩) (v:=.agg #[.string (xt tx m),.slice ra refs.length rc]) rfl (by kernel_rfl) (by kernel_rfl) (by kernel_rfl) (fun _ _ _ h=>h) (Or.inl ⟨by rfl,fun _ _=>by go_simp⟩) hS2 ?_;try simp only[Act.put,Al]
       refine wpAnyH_take (i:=8) (oi:=⟨some 113,.extract (.tmp 105) 1,4, "laws.go:677",#[⟨6,.data⟩,{on:=10,ground:=Ground.gcOnly Departure.lateStores}],none⟩) (v:=.bool true) rfl (by kernel_rfl) (by kernel_rfl) (by kernel_rfl) (fun _ _ _ h=>h) (Or.inl ⟨by rfl,fun _ _=>by go_simp⟩) hS2 ?_;try simp only[Act.put,Al]
       have nB:y1.heap[wr.heap.size]?=some (.cells [.string ⟨#[]⟩,.slice none 0 0].toArray 40 (0,0)):=(b1.block wr.heap.size (by simp)).trans (show(wr.alloc (.cells #[.string ⟨#[]⟩,.slice none 0 0] 40)).heap[wr.heap.size]?=_ from heap_alloc_new _ _);have yV:wr.heap.size<=wr.heap.size:=Us
       have zL:(#[.string (xt tx m),.slice ra refs.length rc]:Array Value).all (·.oneCell')=true:=by simp[Value.oneCell']
       refine wpAnyH_ready (rs:=[10]) (by kernel_rfl) (by simp) ?_;refine AllReadyH.cons (o:=⟨none,.store 40 (.tmp 12) (.tmp 112),0, "laws.go:677",#[⟨9,.data⟩,⟨7,.data⟩,⟨5,.chain⟩,⟨0,.phase⟩,⟨1,.phase⟩,⟨2,.phase⟩,⟨3,.phase⟩,⟨4,.phase⟩,⟨5,.phase⟩,⟨6,.phase⟩,⟨7,.phase⟩,{on:=8,ground:=Ground.textOnly Departure.lateStores},⟨9,.phase⟩],none⟩) rfl (fun K hK=> ?_) AllReadyH.nil;rw[if_pos (by rfl)]
       refine wp_store_mid 40 _ _ rfl wr.heap.size 0 #[.string (xt tx m),.slice ra refs.length rc] rfl rfl (Aa.ofB (l:=[.string ⟨#[]⟩,.slice none 0 0]) nB).there (by kernel_rfl) zL ?_;refine hK.out _ _ (hS2.trans ((AB _ _ _ _).below hS2.size (fun b hb=>by rw[List.mem_singleton] at hb;rw[hb];exact yV))) (fun hS3=> ?_);clear hK K;try simp only[Act.put]
       refine wpAnyH_take (i:=11) (oi:=⟨some 13,.assign (.tmp 113),4, "laws.go:677",#[⟨8,.data⟩,⟨10,.chain⟩,⟨0,.phase⟩,⟨1,.phase⟩,⟨2,.phase⟩,⟨3,.phase⟩,⟨4,.phase⟩,⟨5,.phase⟩,⟨6,.phase⟩,⟨7,.phase⟩,⟨8,.phase⟩,⟨9,.phase⟩,⟨10,.phase⟩],none⟩) (v:=.bool true) rfl (by kernel_rfl) (by kernel_rfl) (by kernel_rfl) (fun _ _ _ h=>h) (Or.inl ⟨by rfl,fun _ _=>by go_simp⟩) hS3 ?_;try simp only[Act.put,Al]
       refine wpAnyH_done (by kernel_rfl) ?_ _;go_wp2_with fail;go_meet;exact⟨wr.heap.size,ra,refs,rc,rfl,rfl,(Aa.ofB (l:=[.string ⟨#[]⟩,.slice none 0 0]) nB).setAll [.string (xt tx m),.slice ra refs.length rc] rfl,hS3⟩
     case rest=>
     obtain⟨pb,ra,refs,rc,rfl,rfl,hcut⟩:=hcut;obtain⟨c0,_⟩:=hcut.o.1 0 _ rfl;obtain⟨bt,zI⟩:∃t:ByteArray,t=⟨#[UInt8.ofNat m,UInt8.ofNat (3 *m)]⟩:=⟨_,rfl⟩;have vN:bt.size=2:=by rw[zI];rfl
     have xK:Sem.run prog (convert 22 9 (.slice (some ⟨wc.heap.size,0,none⟩) 2 2)) (wc.alloc (.cells #[.int .u8 m,.int .u8 (3 *m)] 5))=.ok (.string bt) (wc.alloc (.cells #[.int .u8 m,.int .u8 (3 *m)] 5)):=by
      rw[zI];exact run_convert_bytes_back (P:=prog) (wc.alloc (.cells #[.int .u8 m,.int .u8 (3 *m)] 5)) 22 9 5 ⟨wc.heap.size,0,none⟩ 2 [UInt8.ofNat m,UInt8.ofNat (3 *m)] underlying22 underlying5 underlying9 (fun j hj=>by
       match j,hj with
       |0,_=>simp[go_sem,Addr.add];omega
       |1,_=>simp[go_sem,Addr.add];omega)
     rw[←OI,←zI] at c0;have vX:((tx++bt).toList !=(tx++bt).toList)=false:=by simp
     have xX:Hid (Uq w0 (wc.alloc (.cells #[.int .u8 m,.int .u8 (3 *m)] 5))):=(zE.o.trans (hcut.o.2.mono zE.o.size)).alloc (Uz zE.o.size hcut.o.2.size) _;clear zI hcut;go_wp2;exact⟨⟨m+1,by omega,by go_num,xX.o⟩,by simp[intOf];omega⟩
    ·obtain rfl:m=40:=by omega
     go_wp2;go_ret;exact⟨rfl,(HR.o _ zE.o).2.2⟩
end ClashLaw
theorem St:prog.cellsOf 5=1:=by kernel_rfl
theorem NE {H:Type} {enc:TypeId×Value->H} {W:World} {base:Nat} {zC:Nat->Bool} {held:Bool} {zD:Nat} {v:Value} {y:DataW H×List MemPlace}
 (h:DataW.trod enc prog W base zC held zD 22 [v]=some y):
 ∃a n cap,v=.slice a n cap/\(n=0∨∃q off,a=some ⟨q,off,none⟩/\q<W.heap.size/\∀j,j<n->∃x:Int,W.cell? ⟨q,off+j,none⟩=some (.int .u8 x)/\0<=x/\x<256)/\n<=cap/\n<=maxLen:=by
 rcases Go.Deep.open_slice1 underlying22 St h with⟨zA,_⟩|⟨a,len,cap,m,n,V,D,Pl,zA,_,hl,hm,zE,_,hx⟩
 ·simp at zA
  subst zA;exact⟨none,0,0,rfl,.inl rfl,Us,Nat.zero_le _⟩
 ·simp at zA
  subst zA;refine⟨some a,len,cap,rfl,?_,hl,by omega⟩;have zF:len<=m:=by rw[zE];split<;>omega
  by_cases h0:len=0
  ·exact .inl h0
  ·obtain⟨b,off,spot⟩:=a
   have zB:spot=none:=by simpa [Addr.add] using World.cell?_spot (hx 0 (by omega)).1
   subst zB;refine .inr ⟨b,off,rfl,?_,fun j hj=> ?_⟩
   ·exact World.block_lt_of_cell? W ⟨b,off+0,none⟩ (by rw[←Go.WideShapes.add_plain];exact(hx 0 (by omega)).1)
   ·obtain⟨h1,h2⟩:=hx j (by omega)
    obtain⟨z,hz,_,hw⟩:=DataW.trod_int underlying5 h2;simp at hz;rw[Go.WideShapes.add_plain,hz] at h1;refine⟨z,h1,?_⟩;have h8:=range_u8 (zs:=[z]) (by intro n hn;simp at hn;subst hn;exact hw) 0;simp at h8;omega
end Go.Proofs.YtflhhhnlhlaehaaGreatDoor
