import Derived.Test.YtpekbmegopfhfaaGreatDoorK26
set_option maxRecDepth 100000
set_option maxHeartbeats 16000000
namespace Go.Proofs.YtpekbmegopfhfaaGreatDoor
open Go.ChangeShapes Go.WideShapes Go.ChangeAt Go.RowKit _root_.Go.Proofs.Tryz
def Cw (w:World) (b:Nat) (ph:Int) (Q M:Value) (top at_ ro:Int):Prop:=
 w.cell? ⟨b,0,none⟩=some (.int .i64 ph)/\w.cell? ⟨b,1,none⟩=some Q/\w.cell? ⟨b,2,none⟩=some M/\w.cell? ⟨b,3,none⟩=some (.int .i64 top)/\
  w.cell? ⟨b,4,none⟩=some (.int .i64 at_)/\w.cell? ⟨b,5,none⟩=some (.int .i64 ro)/\b<w.heap.size
theorem Cw.new (w:World) (ph top at_ ro:Int) (Q M:Value) (t:TypeId):Cw (w.alloc (.cells #[XJ ph,Q,M,XJ top,XJ at_,XJ ro] t)) w.heap.size ph Q M top at_ ro:=
 ⟨by simp,by simp,by simp,by simp,by simp,by simp,by simp⟩
theorem Cw.keep {w w':World} {b B:Nat} {ph top at_ ro:Int} {Q M:Value} (h:Cw w b ph Q M top at_ ro) (hb:Below B w w') (hB:b<B):Cw w' b ph Q M top at_ ro:=by
 obtain⟨h0,h1,h2,h3,h4,h5,h7⟩:=h;exact⟨(hb.cell (p:=⟨b,0,none⟩) hB).trans h0,(hb.cell (p:=⟨b,1,none⟩) hB).trans h1,(hb.cell (p:=⟨b,2,none⟩) hB).trans h2,(hb.cell (p:=⟨b,3,none⟩) hB).trans h3,
  (hb.cell (p:=⟨b,4,none⟩) hB).trans h4,(hb.cell (p:=⟨b,5,none⟩) hB).trans h5,XH h7 hb.size⟩
theorem Cw.below {w w':World} {b:Nat} {ph top at_ ro:Int} {Q M:Value} (h:Cw w b ph Q M top at_ ro) (hb:Xz w w'):Cw w' b ph Q M top at_ ro:=h.keep hb h.2.2.2.2.2.2
theorem OO (a:Option Addr) (cap:Nat) (ss:List ByteArray) (left:Int) (w:World) (B:Nat) (zA:Ae w B a ss) (hl:ss.length<=maxLen) (hs:∀s∈ss,s.size<=maxLen) (h1:0<=left) (h2:left<=1048576):
 Calls prog 9 #[.slice a ss.length cap,XJ left] w fun e w'=>∃r:Int,e=.returned (XJ r)/\w'=w/\r<=left/\(0<=r->ss.length<=1048576):=by
 by_cases hfit:(ss.length:Int)+bulk ss<=left
 ·refine(GP a cap ss left w B zA h2 hfit).mono ?_
  rintro e w' ⟨rfl,rfl⟩;exact⟨_,rfl,rfl,by omega,fun _=>by omega⟩
 ·refine(Jv a cap ss left w B zA hl hs h1 h2 (by omega)).mono ?_
  rintro e w' ⟨rfl,rfl⟩;exact⟨_,rfl,rfl,by omega,fun h=>by omega⟩
structure GO (qs ms:List ByteArray):Prop where
 q:qs.length<=1048576
 m:ms.length<=1048576
theorem Ob (ph top at_ ro:Int) (a b:Option Addr) (ac bc:Nat) (qs ms:List ByteArray) (left:Int) (w:World) (hq:Ae w w.heap.size a qs) (hm:Ae w w.heap.size b ms)
 (hl:qs.length<=maxLen) (hs:∀s∈qs,s.size<=maxLen) (zB:ms.length<=maxLen) (zE:∀s∈ms,s.size<=maxLen) (h1:0<=left) (h2:left<=1048576):
 Calls prog 66 #[.agg #[XJ ph,.slice a qs.length ac,.slice b ms.length bc,XJ top,XJ at_,XJ ro],XJ left] w fun e w'=>∃r:Int,e=.returned (XJ r)/\Xz w w'/\(0<=r->GO qs ms):=by
 have hb:Below w.heap.size w (w.alloc (.cells #[XJ ph,.slice a qs.length ac,.slice b ms.length bc,XJ top,XJ at_,XJ ro] 58)):=XA;go_enter func66,ntmps66;go_wp2_with fail;refine(OO a ac qs _ _ w.heap.size (hq.below hb) hl hs (by omega) (by omega)).mono ?_;rintro e w1 ⟨r,rfl,rfl,hr,zA⟩;by_cases h3:r<0
 ·go_wp2
  go_ret;exact⟨_,rfl,hb,fun h=>by omega⟩
 ·go_wp2_with fail
  refine(OO b bc ms _ _ w.heap.size (hm.below hb) zB zE (by omega) (by omega)).mono ?_;rintro e w2 ⟨r2,rfl,rfl,zF,zC⟩;by_cases h4:r2<0
  ·go_wp2
   go_ret;exact⟨_,rfl,hb,fun h=>by omega⟩
  ·go_wp2
   go_ret;exact⟨_,rfl,hb,fun _=>⟨zA (by omega),zC (by omega)⟩⟩
theorem Oc (ph top at_ ro:Int) (a b a' b':Option Addr) (ac bc zA zB:Nat) (qs ms:List ByteArray) (w:World) (hq:Ae w w.heap.size a qs) (hm:Ae w w.heap.size b ms) (zE:Ae w w.heap.size a' qs) (zF:Ae w w.heap.size b' ms) (hf:GO qs ms):
 Calls prog 61 #[.agg #[XJ ph,.slice a qs.length ac,.slice b ms.length bc,XJ top,XJ at_,XJ ro],.agg #[XJ ph,.slice a' qs.length zA,.slice b' ms.length zB,XJ top,XJ at_,XJ ro]] w fun e w'=>e=.returned (.bool true)/\Xz w w':=by
 have hb:Below w.heap.size w ((w.alloc (.cells #[XJ ph,.slice a qs.length ac,.slice b ms.length bc,XJ top,XJ at_,XJ ro] 42)).alloc (.cells #[XJ ph,.slice a' qs.length zA,.slice b' ms.length zB,XJ top,XJ at_,XJ ro] 42)):=(XA).alloc (by simp) _;go_enter func61,ntmps61;go_wp2_with fail;refine(GR a a' ac zA qs _ _ _ (hq.below hb) (zE.below hb) hf.q).mono ?_;rintro e w' ⟨rfl,n,rfl⟩;have zC:=BP hb n
 go_wp2_with fail;refine(GR b b' bc zB ms _ _ _ (hm.below zC) (zF.below zC) hf.m).mono ?_;rintro e w' ⟨rfl,m,rfl⟩;go_wp2;go_ret;exact⟨rfl,BP hb (n+m)⟩
theorem Od (ph top at_ ro:Int) (a b:Option Addr) (ac bc:Nat) (qs ms:List ByteArray) (w:World) (hq:Ae w w.heap.size a qs) (hm:Ae w w.heap.size b ms) (hf:GO qs ms):
 Calls prog 70 #[.agg #[.int .i64 ph,.slice a qs.length ac,.slice b ms.length bc,.int .i64 top,.int .i64 at_,.int .i64 ro]] w fun e w'=>∃g k,e=.returned (.agg #[.int .i64 ph,.slice (some ⟨g,0,none⟩) qs.length qs.length,.slice (some ⟨k,0,none⟩) ms.length ms.length,.int .i64 top,.int .i64 at_,.int .i64 ro])/\w.heap.size<=g/\g<k/\
  w'.ownsRow w.heap.size 9 1 (.slice (some ⟨g,0,none⟩) qs.length qs.length) qs.length (qs.map Value.string)/\
  w'.ownsRow w.heap.size 9 1 (.slice (some ⟨k,0,none⟩) ms.length ms.length) ms.length (ms.map Value.string)/\Xz w w':=by
 have zF:Below w.heap.size w (((w.alloc (.cells #[.int .i64 ph,.slice a qs.length ac,.slice b ms.length bc,.int .i64 top,.int .i64 at_,.int .i64 ro] 58)).alloc (.cells #[.int .i64 0,.slice none 0 0,.slice none 0 0,.int .i64 0,.int .i64 0,.int .i64 0] 42)).alloc (.cells #[.int .i64 ph,.slice none 0 0,.slice none 0 0,.int .i64 0,.int .i64 0,.int .i64 0] 42)):=((XA).alloc (by simp) _).alloc (by simp;omega) _
 go_enter func70,ntmps70;go_wp2_with fail;refine(GQ a ac qs _ (hq.below' zF) hf.q).mono ?_;rintro e w1 ⟨g,rfl,hg,zE,hb⟩;have zN:=zF.trans (hb.mono (by simp;omega));obtain⟨hc,zG⟩:=IE hb;have hz:=hb.size;simp at hz hg;go_wp2_with fail;obtain⟨W2,zB⟩:∃W2,W2=w1.setCell ⟨w.heap.size+1+1,1,none⟩ (.slice (some ⟨g,0,none⟩) qs.length qs.length):=⟨_,rfl⟩
 have zH:Below w.heap.size w W2:=by rw[zB];exact zN.setCell (by simp;omega) _
 have zS:W2.heap.size=w1.heap.size:=by rw[zB];simp
 have zI:W2.ownsRow (w.heap.size+3) 9 1 (.slice (some ⟨g,0,none⟩) qs.length qs.length) qs.length (qs.map Value.string):=by
  rw[zB];exact(ownsRow_setCell_below zE (by simp) _).mono (by simp)
 have zM:Cw W2 (w.heap.size+1+1) ph (.slice (some ⟨g,0,none⟩) qs.length qs.length) (.slice none 0 0) 0 0 0:=by
  rw[zB];exact⟨by simp[go_sem,hc],by simp[go_sem,hc],by simp[go_sem,hc],by simp[go_sem,hc],by simp[go_sem,hc],by simp[go_sem,hc],by simp;omega⟩
 have zP:Cw W2 (w.heap.size+1) 0 (.slice none 0 0) (.slice none 0 0) 0 0 0:=by
  rw[zB];exact⟨by simp[go_sem,hc],by simp[go_sem,hc],by simp[go_sem,hc],by simp[go_sem,hc],by simp[go_sem,hc],by simp[go_sem,hc],by simp;omega⟩
 have zR:Cw W2 w.heap.size ph (.slice a qs.length ac) (.slice b ms.length bc) top at_ ro:=by
  rw[zB];exact⟨by simp[go_sem,hc],by simp[go_sem,hc],by simp[go_sem,hc],by simp[go_sem,hc],by simp[go_sem,hc],by simp[go_sem,hc],by simp;omega⟩
 have f2:∀o,W2.frozen? ⟨w.heap.size+1+1,o,none⟩=false:=fun o=>by rw[zB];simp[go_sem,zG]
 have f1:∀o,W2.frozen? ⟨w.heap.size+1,o,none⟩=false:=fun o=>by rw[zB];simp[go_sem,zG]
 rw[←zB];clear zB zE hb hc zG;refine(GQ b bc ms _ (hm.below' zH) hf.m).mono ?_;rintro e w3 ⟨k,rfl,hk,zC,zA⟩;have zU:=zA.size;obtain⟨x0,x1,x2,x3,x4,x5,x6⟩:=zM.below zA;obtain⟨y0,y1,y2,y3,y4,y5,y6⟩:=zP.below zA;obtain⟨v0,v1,v2,v3,v4,v5,v6⟩:=zR.below zA;replace f2:∀o,w3.frozen? ⟨w.heap.size+1+1,o,none⟩=false:=fun o=>(zA.frozen (p:=⟨w.heap.size+1+1,o,none⟩) (by simp;omega)).trans (f2 o)
 replace f1:∀o,w3.frozen? ⟨w.heap.size+1,o,none⟩=false:=fun o=>(zA.frozen (p:=⟨w.heap.size+1,o,none⟩) (by simp;omega)).trans (f1 o);have zT:=(zI.lt g rfl).2;have zO:w3.ownsRow (w.heap.size+3) 9 1 (.slice (some ⟨g,0,none⟩) qs.length qs.length) qs.length (qs.map Value.string):=zI.kept (row:=none) ⟨zA.os,zA.tape,zA.output,zA.size,fun i hi _=>zA.block i hi⟩ (.inr (by simp[Value.ownBlock]))
 have zJ:=zC.mono (show w.heap.size+3<=W2.heap.size by omega);have zK:=zH.trans (zA.mono (by omega));have HO:Hid _:=And.intro zO (And.intro zJ zK);clear zO zJ zK zC zI zM zP zR zA zN zH zF;go_wp2
 refine bodyPost_ret (v:=.agg #[.int .i64 ph,.slice (some ⟨g,0,none⟩) qs.length qs.length,.slice (some ⟨k,0,none⟩) ms.length ms.length,.int .i64 top,.int .i64 at_,.int .i64 ro]) (by simp[results,results70,go_sem,y0,y1,y2,y3,y4,y5]) rfl ⟨g,k,rfl,by omega,by omega,?_,?_,?_⟩
 ·refine World.ownsRow.mono ?_ (show w.heap.size<=w.heap.size+3 by omega)
  iterate 10 (refine ownsRow_setCell_below ?_ (by simp) _)
  exact HO.o.1
 ·refine World.ownsRow.mono ?_ (show w.heap.size<=w.heap.size+3 by omega)
  iterate 10 (refine ownsRow_setCell_below ?_ (by simp) _)
  exact HO.o.2.1
 ·iterate 10 (refine Below.setCell ?_ (by simp<;>omega) _)
  exact HO.o.2.2
section
attribute [local go_sem↓] Go.wp_at_zero Go.wp_at_succ
theorem Oe (ph top at_ ro:Int) (q a:Option Addr) (ql qc ac:Nat) (ms:List ByteArray) (w:World) (zB:Ae w w.heap.size a ms) (hl:ms.length<=1048576):
 Calls prog 180 #[.agg #[XJ ph,.slice q ql qc,.slice a ms.length ac,XJ top,XJ at_,XJ ro]] w fun e w'=>∃b c f,e=.returned (.map (some b))/\w.heap.size<=b/\CJ w' 139 b ms.length c f/\MK ms f c/\Xz w w':=by
 have zN:= @run_makeMap prog;go_enter func180,ntmps180;go_wp2;obtain⟨W0,zE⟩:∃W,W=(w.alloc (Obj.cells #[XJ ph,.slice q ql qc,.slice a ms.length ac,XJ top,XJ at_,XJ ro] 42)).alloc (Obj.map #[] 0):=⟨_,rfl⟩;have zO:Below w.heap.size w W0:=by
  rw[zE];exact(XA).alloc (by simp) _
 have zR:W0.heap.size=w.heap.size+2:=by rw[zE];simp
 have zP:CJ W0 139 (w.heap.size+1) 0 0 (fun _=>none):=by
  have:=CJ.new (w.alloc (Obj.cells #[XJ ph,.slice q ql qc,.slice a ms.length ac,XJ top,XJ at_,XJ ro] 42)) 139;rw[zE];rw[World.size_alloc] at this;exact this
 rw[←zE];clear zE zN
 go_loopw [10] (fun i wr=>∃(k c:Nat) (f:Lit->Option Value),k<=ms.length/\i=XJ k/\Hid (CJ wr 139 (w.heap.size+1) k c f)/\Hid (MK (ms.take k) f c)/\W0.grownBy wr (some (w.heap.size+1))) (fun i _=>ms.length -(intOf i).toNat)
 case atStart=>exact⟨0,0,_,Nat.zero_le _,rfl,zP,by rw[List.take_zero];exact MK.nil,Eb _ _⟩
 case round=>
  obtain⟨k,c,f,hk,rfl,HM,HF,zF⟩:=hrel;have zC:Below w.heap.size w wr:=zO.grown zF (by omega) (by intro j hj;cases hj;omega);have zS:=zF.size;by_cases hlt:k<ms.length
  ·obtain⟨b,off,ha,hb,hc⟩:=(zB.below zC).at hlt
   subst ha;have HG:Hid (ms[k]?=some ms[k]):=XD hlt;have c0:=hc k _ HG.o;clear hc zB;generalize ms[k]=x at *
   obtain⟨n,hn,zK,zI,_⟩:=HF.o.get (keyL x);have zH:(ms.take k).length=k:=by simp;omega
   rw[zH] at zI;have zT:IntKind.i64.wrap (n+1)=n+1:=GY (by omega) (by omega);go_wp2;go_region_with (first
    |(go_at_call 135;refine(GS x _).mono ?_;rintro e w2 ⟨rfl,zG⟩;have zA:Below wr.heap.size wr w2:=(Below.refl _ _).drew.trans (zG.mono (by simp));obtain⟨st,w3,w4,he,hl1,hl3,hs4,hm4,hg3,hg4⟩:=(HM.o.keep zA (by omega)).bump keyed underlying236 (by unfold maxLen;omega) Uu (Ee x) (XJ (n+1));rw[hn] at he hl1 hl3;unfold goInt at he hs4))
   all_goals
    have zJ:W0.grownBy w4 (some (w.heap.size+1)):=Ap zF (Ap (Ax _ zA) hg4);have HN:Hid (MK (ms.take (k+1)) (upd f (keyL x) (XJ (n+1))) (if (f (keyL x)).isSome then c else c+1)):=by
     have:=HF.o.snoc x zK (by rw[zH];exact zI);rw[List.take_add_one,HG.o];exact this
    have zM:Hid _:=hm4;clear hm4 he hl1 hl3 hs4 hg3 hg4 zA zG;go_wp2;exact⟨⟨k+1,_,_,by omega,by go_num,zM,HN,zJ⟩,by simp[intOf];omega⟩
  ·rw[XF (by omega)] at HF
   obtain rfl:k=ms.length:=by omega
   go_wp2;go_ret;exact⟨_,c,f,rfl,by omega,HM.o,HF.o,zC⟩
end
section
attribute [local go_sem↓] Go.wp_at_zero Go.wp_at_succ
theorem RW (s:ByteArray) (wd:Int) (b:Nat) (w:World) (hc:w.cell? (XL b 0)=some (XJ wd)):
 Calls prog 178 #[.string s,.pointer (some ⟨b,0,none⟩)] w fun e w'=>e=.returned (.bool (!decide ((s.size:Int)=wd)))/\w'=w:=by
 go_enter func178,ntmps178;by_cases h:(s.size:Int)=wd
 ·have h':((s.size:Int) !=wd)=false:=by simp[h]
  go_wp2;go_ret;exact⟨by simp[h],rfl⟩
 ·have h':((s.size:Int) !=wd)=true:=by simp[h]
  go_wp2;go_ret;exact⟨by simp[h],rfl⟩
theorem LX (a:Option Addr) (cap b:Nat) (ss:List ByteArray) (wd:Int) (w:World) (B:Nat) (zB:Ae w B a ss) (hl:ss.length<=1048576) (hc:w.cell? (XL b 0)=some (XJ wd)):
 Calls prog 213 #[.slice a ss.length cap,.func (.func 178) #[] #[.pointer (some ⟨b,0,none⟩)]] w fun e w'=>∃r:Int,e=.returned (XJ r)/\(0<=r↔∃s∈ss,¬(s.size:Int)=wd)/\w'=w:=by
 go_enter func213,ntmps213;go_wp2
 go_loop [8] (fun i=>∃k:Nat,k<=ss.length/\i=XJ k/\Hid (∀j x,j<k->ss[j]?=some x->(x.size:Int)=wd)) (fun i=>ss.length -(intOf i).toNat)
 case atStart=>exact⟨0,Nat.zero_le _,rfl,fun j x h=>by omega⟩
 case round=>
  obtain⟨k,hk,rfl,zA⟩:=hrel;by_cases hlt:k<ss.length
  ·obtain⟨b',off,ha,hb,zC⟩:=zB.at hlt
   subst ha;have hg:Hid _:=XD hlt;have c0:=zC k _ hg;clear zC zB;generalize ss[k]=x at *
   go_wp2_with fail;refine(RW x wd b w hc).mono ?_;rintro e w1 ⟨rfl,rfl⟩;by_cases h:(x.size:Int)=wd
   ·have HA:Hid (∀j y,j<k+1->ss[j]?=some y->(y.size:Int)=wd):=by
     intro j y hj hy;rcases Nat.lt_or_ge j k with h'|h'
     ·exact zA j y h' hy
     ·obtain rfl:j=k:=by omega
      rw[hg.o] at hy;cases hy;exact h
    have hd:decide ((x.size:Int)=wd)=true:=by simp[h]
    rw[hd];go_wp2;exact⟨⟨k+1,by omega,by go_num,HA⟩,by simp[intOf];omega⟩
   ·have hd:decide ((x.size:Int)=wd)=false:=by simp[h]
    rw[hd];go_wp2;go_ret;exact⟨_,rfl,⟨fun _=>⟨x,XG hg.o,h⟩,fun _=>by omega⟩,rfl⟩
  ·go_wp2
   go_ret;refine⟨_,rfl,⟨fun h=>by omega,fun⟨s,hs,h⟩=> ?_⟩,rfl⟩;obtain⟨j,hj,rfl⟩:=List.getElem_of_mem hs;exact absurd (zA j _ (by omega) (XD hj)) h
open Classical in
theorem Gq (a:Option Addr) (cap b:Nat) (ss:List ByteArray) (wd:Int) (w:World) (B:Nat) (zA:Ae w B a ss) (hl:ss.length<=1048576) (hc:w.cell? (XL b 0)=some (XJ wd)):
 Calls prog 179 #[.slice a ss.length cap,.func (.func 178) #[] #[.pointer (some ⟨b,0,none⟩)]] w fun e w'=>e=.returned (.bool (decide (∃s∈ss,¬(s.size:Int)=wd)))/\w'=w:=by
 go_enter func179,ntmps179;go_wp2_with fail;refine(LX a cap b ss wd w B zA hl hc).mono ?_;rintro e w1 ⟨r,rfl,hr,rfl⟩;by_cases h:0<=r
 ·have hd:decide ((0:Int)<=r)=true:=by simpa using h
  go_wp2;go_ret;exact⟨by simp[hr.1 h],rfl⟩
 ·have hd:decide ((0:Int)<=r)=false:=by simpa using h
  have zB:¬∃s∈ss,¬(s.size:Int)=wd:=fun e=>h (hr.2 e);go_wp2;go_ret;exact⟨by rw[decide_eq_false zB];rfl,rfl⟩
structure Nn (wd:Int) (qs ms:List ByteArray):Prop where
 nq:qs.length<=23200
 nm:ms.length<=600
 q:∀s∈qs,(s.size:Int)=wd
 m:∀s∈ms,(s.size:Int)=wd
 nd:ms.Nodup
theorem Qb {wd:Int} {ms:List ByteArray} (h8:wd<=8) (hm:∀s∈ms,(s.size:Int)=wd):(ms.map keyL).Nodup↔ms.Nodup:=by
 induction ms with
 |nil=>simp
 |cons x r ih=>
  have ih:=ih (fun s hs=>hm s (by simp[hs]));simp only[List.map_cons,List.nodup_cons,ih];have hx:=hm x (by simp);constructor
  ·rintro⟨h1,h2⟩
   exact⟨fun h=>h1 (List.mem_map.2 ⟨x,h,rfl⟩),h2⟩
  ·rintro⟨h1,h2⟩
   refine⟨fun h=> ?_,h2⟩;obtain⟨y,hy,e⟩:=List.mem_map.1 h;have zA:=hm y (by simp[hy]);have:y=x:=IF e (by omega) (by omega);subst this;exact h1 hy
theorem LY (ph top at_ ro wd:Int) (a b:Option Addr) (ac bc:Nat) (qs ms:List ByteArray) (w:World) (hq:Ae w w.heap.size a qs) (hm:Ae w w.heap.size b ms) (hf:GO qs ms) (h8:wd<=8):
 Calls prog 154 #[.agg #[XJ ph,.slice a qs.length ac,.slice b ms.length bc,XJ top,XJ at_,XJ ro],XJ wd] w fun e w'=>Ak (Nn wd qs ms) w w' e:=by
 have zM:=hf.q;have zJ:=hf.m;have hb:Below w.heap.size w ((w.alloc (.cells #[XJ ph,.slice a qs.length ac,.slice b ms.length bc,XJ top,XJ at_,XJ ro] 42)).alloc (.cells #[XJ wd] 3)):=(XA).alloc (by simp) _;go_enter func154,ntmps154;by_cases h1:qs.length<=23200
 ·have d1:decide ((23200:Int)<(qs.length:Int))=false:=by simp;omega
  by_cases h2:ms.length<=600
  ·have d2:decide ((600:Int)<(ms.length:Int))=false:=by simp;omega
   go_wp2_with fail;refine(Gq a ac _ qs wd _ w.heap.size (hq.below hb) hf.q (by simp[go_sem])).mono ?_;rintro e w1 ⟨rfl,rfl⟩;by_cases h3:∃s∈qs,¬(s.size:Int)=wd
   ·rw[decide_eq_true h3]
    go_wp2;go_ret;exact Ak.no (fun h=>by obtain⟨s,hs,h'⟩:=h3;exact h' (h.q s hs)) hb
   ·rw[decide_eq_false h3]
    go_wp2_with fail;refine(Gq b bc _ ms wd _ w.heap.size (hm.below hb) hf.m (by simp[go_sem])).mono ?_;rintro e w2 ⟨rfl,rfl⟩;by_cases h4:∃s∈ms,¬(s.size:Int)=wd
    ·rw[decide_eq_true h4]
     go_wp2;go_ret;exact Ak.no (fun h=>by obtain⟨s,hs,h'⟩:=h4;exact h' (h.m s hs)) hb
    ·rw[decide_eq_false h4]
     have zF:∀s∈qs,(s.size:Int)=wd:=fun s hs=>Classical.byContradiction fun h=>h3 ⟨s,hs,h⟩;have zC:∀s∈ms,(s.size:Int)=wd:=fun s hs=>Classical.byContradiction fun h=>h4 ⟨s,hs,h⟩;have HA:Hid _:=And.intro zF zC;clear zF zC h3 h4;go_wp2_with fail;obtain⟨W,hW⟩:∃W,W=((w.alloc (.cells #[XJ ph,.slice a qs.length ac,.slice b ms.length bc,XJ top,XJ at_,XJ ro] 42)).alloc (.cells #[XJ wd] 3)):=⟨_,rfl⟩
     have zE:Cw W w.heap.size ph (.slice a qs.length ac) (.slice b ms.length bc) top at_ ro:=by
      rw[hW];exact(Cw.new w ph top at_ ro _ _ 42).below (XA)
     rw[←hW] at hb ⊢;have HX:Hid _:=zE;have zI:Hid _:=hm.below' hb;obtain⟨x0,x1,x2,x3,x4,x5,x6⟩:=zE;clear hW;go_region_with (first
      |(go_at_call 180;refine(Oe ph top at_ ro a b qs.length ac bc ms W.drew zI.o (by omega)).mono ?_;rintro e w2 ⟨mb,cc,f,rfl,zK,zG,zH,zA⟩;have zB:=fun ty=>zG.len underlying236 ty;have y2:=(zA.cell (p:=⟨w.heap.size,2,none⟩) x6).trans x2))
     all_goals
      have HB:Hid (Xz w w2):=(hb.drew.trans (zA.mono hb.size));have HK:Hid _:=zH;clear zB zG zH zA;go_wp2;go_ret;refine⟨_,rfl,?_,HB.o⟩;have h6:=HK.o.all;rw[Qb h8 HA.o.2] at h6;have h7:(cc:Int)=ms.length↔ms.Nodup:=by rw[←h6];omega
      simp only[beq_iff_eq,h7];exact⟨fun h=>⟨h1,h2,HA.o.1,HA.o.2,h⟩,fun h=>h.nd⟩
  ·have d2:decide ((600:Int)<(ms.length:Int))=true:=by simp;omega
   go_wp2;go_ret;exact Ak.no (fun h=>h2 h.nm) hb
 ·have d1:decide ((23200:Int)<(qs.length:Int))=true:=by simp;omega
  go_wp2;go_ret;exact Ak.no (fun h=>h1 h.nq) hb
end
theorem FH (n lo hi:Int) (w:World):
 Calls prog 52 #[XJ n,XJ lo,XJ hi] w fun e w'=>e=.returned (.bool (decide (lo<=n/\n<=hi)))/\w'=w:=by
 by_cases h1:lo<=n
 ·by_cases h2:n<=hi
  ·go_enter func52,ntmps52
   go_wp2;go_ret;exact⟨Ao (by simp[h1,h2]),rfl⟩
  ·go_enter func52,ntmps52
   go_wp2;go_ret;exact⟨Ao (by simp[h2]),rfl⟩
 ·have zA:decide (lo<=n)=false:=by simpa using h1
  go_enter func52,ntmps52;go_wp2;go_ret;exact⟨Ao (by simp),rfl⟩
theorem RY (n:Int) (w:World):
 Calls prog 153 #[XJ n] w fun e w'=>e=.returned (.bool (decide (0<=n/\n<=1000000000)))/\w'=w:=by
 by_cases h1:0<=n
 ·by_cases h2:n<=1000000000
  ·go_enter func153,ntmps153
   go_wp2;go_ret;exact⟨Ao (by simp[h1,h2]),rfl⟩
  ·have zA:decide (n<=1000000000)=false:=by simpa using h2
   go_enter func153,ntmps153;go_wp2;go_ret;exact⟨rfl,rfl⟩
 ·have zB:decide (0<=n)=false:=by simpa using h1
  go_enter func153,ntmps153;go_wp2;go_ret;exact⟨rfl,rfl⟩
section
attribute [local go_sem↓] Go.wp_at_zero Go.wp_at_succ
def DZ (births ph top at_:Int) (qs ms:List ByteArray):Prop:=
 (ph=0/\qs=[]/\ms=[]/\top=0/\at_=0)∨(ph=1/\0<=top/\top<=births/\at_=top+1)∨(ph=2/\0<=top/\top<=births/\1<=at_/\at_<=top+1)
structure AO (wd births ph top at_ ro:Int) (qs ms:List ByteArray):Prop where
 ro1:0<=ro
 ro2:ro<=1000000000
 sums:Nn wd qs ms
 ph:DZ births ph top at_ qs ms
theorem KH (ph top at_ ro wd births:Int) (a b:Option Addr) (ac bc:Nat) (qs ms:List ByteArray) (w:World) (hq:Ae w w.heap.size a qs) (hm:Ae w w.heap.size b ms) (hf:GO qs ms) (h8:wd<=8) (zM:births<=1000000000):
 Calls prog 120 #[.agg #[XJ ph,.slice a qs.length ac,.slice b ms.length bc,XJ top,XJ at_,XJ ro],XJ wd,XJ births] w fun e w'=>Ak (AO wd births ph top at_ ro qs ms) w w' e:=by
 have zO:=hf.q;have zN:=hf.m;have hb:Below w.heap.size w (w.alloc (.cells #[XJ ph,.slice a qs.length ac,.slice b ms.length bc,XJ top,XJ at_,XJ ro] 42)):=XA;have hx:=Cw.new w ph top at_ ro (.slice a qs.length ac) (.slice b ms.length bc) 42;go_enter func120,ntmps120;go_wp2_with fail;refine(RY ro _).mono ?_;rintro e w1 ⟨rfl,rfl⟩;by_cases h1:0<=ro/\ro<=1000000000
 ·rw[decide_eq_true h1]
  go_wp2_with fail;refine(LY ph top at_ ro wd a b ac bc qs ms _ (hq.below' hb) (hm.below' hb) hf h8).mono ?_;rintro e w2 ⟨b2,rfl,zE,zC⟩;have zA:=hb.trans (zC.mono (by simp));obtain⟨x0,x1,x2,x3,x4,x5,x6⟩:=hx.below zC;clear zC hx;cases b2 with
  |false=>
   go_wp2;go_ret;exact Ak.no (fun h=>by have:=zE.2 h.sums;cases this) zA
  |true=>
   have zB:=zE.1 rfl;have HS:Hid _:=zB;clear zE zB;by_cases p0:ph=0
   ·subst p0
    by_cases e1:qs.length=0
    ·by_cases e2:ms.length=0
     ·by_cases e3:top=0
      ·by_cases e4:at_=0
       ·go_wp2
        go_ret;exact Ak.yes ⟨h1.1,h1.2,HS.o,.inl ⟨rfl,List.eq_nil_of_length_eq_zero e1,List.eq_nil_of_length_eq_zero e2,e3,e4⟩⟩ zA
       ·have zG:(at_==0)=false:=by simpa using e4
        go_wp2;go_ret;exact Ak.no (P:=AO wd births 0 top at_ ro qs ms) (fun h=>by have:=h.ph;unfold DZ at this;simp at this;have h9:=this.2.2.2;omega) zA
      ·have zF:(top==0)=false:=by simpa using e3
       go_wp2;go_ret;exact Ak.no (fun h=>by have:=h.ph;unfold DZ at this;simp at this;have h9:=this.2.2.1;omega) zA
     ·have zI:((ms.length:Int)==0)=false:=beq_eq_false_iff_ne.2 (by omega)
      go_wp2;go_ret;exact Ak.no (fun h=>by have:=h.ph;unfold DZ at this;simp at this;exact e2 (by rw[this.2.1];rfl)) zA
    ·have zH:((qs.length:Int)==0)=false:=beq_eq_false_iff_ne.2 (by omega)
     go_wp2;go_ret;exact Ak.no (fun h=>by have:=h.ph;unfold DZ at this;simp at this;exact e1 (by rw[this.1];rfl)) zA
   ·have zP:(ph==0)=false:=by simpa using p0
    by_cases p1:ph=1
    ·subst p1
     by_cases e1:0<=top
     ·by_cases e2:top<=births
      ·have zJ:IntKind.i64.wrap (top+1)=top+1:=GY (by omega) (by omega)
       by_cases e3:at_=top+1
       ·have zF:(at_==top+1)=true:=by simpa using e3
        go_wp2;go_ret;exact Ak.yes (P:=AO wd births 1 top at_ ro qs ms) ⟨h1.1,h1.2,HS.o,.inr (.inl ⟨rfl,e1,e2,e3⟩)⟩ zA
       ·have zF:(at_==top+1)=false:=by simpa using e3
        go_wp2;go_ret;exact Ak.no (P:=AO wd births 1 top at_ ro qs ms) (fun h=>by have:=h.ph;unfold DZ at this;simp at this;have h9:=this.2.2;omega) zA
      ·have zI:decide (top<=births)=false:=by simpa using e2
       go_wp2;go_ret;exact Ak.no (P:=AO wd births 1 top at_ ro qs ms) (fun h=>by have:=h.ph;unfold DZ at this;simp at this;have h9:=this.2.1;omega) zA
     ·have zH:decide (0<=top)=false:=by simpa using e1
      go_wp2;go_ret;exact Ak.no (P:=AO wd births 1 top at_ ro qs ms) (fun h=>by have:=h.ph;unfold DZ at this;simp at this;have h9:=this.1;omega) zA
    ·have zK:(ph==1)=false:=by simpa using p1
     by_cases p2:ph=2
     ·subst p2
      by_cases e1:0<=top
      ·by_cases e2:top<=births
       ·have zJ:IntKind.i64.wrap (top+1)=top+1:=GY (by omega) (by omega)
        by_cases e3:1<=at_
        ·by_cases e4:at_<=top+1
         ·have zG:decide (at_<=top+1)=true:=by simpa using e4
          go_wp2;go_ret;exact Ak.yes (P:=AO wd births 2 top at_ ro qs ms) ⟨h1.1,h1.2,HS.o,.inr (.inr ⟨rfl,e1,e2,e3,e4⟩)⟩ zA
         ·have zG:decide (at_<=top+1)=false:=by simpa using e4
          go_wp2;go_ret;exact Ak.no (P:=AO wd births 2 top at_ ro qs ms) (fun h=>by have:=h.ph;unfold DZ at this;simp at this;have h9:=this.2.2.2;omega) zA
        ·have zF:decide (1<=at_)=false:=by simpa using e3
         go_wp2;go_ret;exact Ak.no (P:=AO wd births 2 top at_ ro qs ms) (fun h=>by have:=h.ph;unfold DZ at this;simp at this;have h9:=this.2.2.1;omega) zA
       ·have zI:decide (top<=births)=false:=by simpa using e2
        go_wp2;go_ret;exact Ak.no (P:=AO wd births 2 top at_ ro qs ms) (fun h=>by have:=h.ph;unfold DZ at this;simp at this;have h9:=this.2.1;omega) zA
      ·have zH:decide (0<=top)=false:=by simpa using e1
       go_wp2;go_ret;exact Ak.no (P:=AO wd births 2 top at_ ro qs ms) (fun h=>by have:=h.ph;unfold DZ at this;simp at this;have h9:=this.1;omega) zA
     ·have zR:(ph==2)=false:=by simpa using p2
      go_wp2;go_ret;exact Ak.no (P:=AO wd births ph top at_ ro qs ms) (fun h=>by rcases h.ph with h|h|h;exact p0 h.1;exact p1 h.1;exact p2 h.1) zA
 ·rw[decide_eq_false h1]
  go_wp2;go_ret;exact Ak.no (fun h=>h1 ⟨h.ro1,h.ro2⟩) hb
end
theorem RZ (a b:Option Addr) (c d:Nat) (ss tt:List ByteArray) (left:Int) (w:World) (hr:Ae w w.heap.size a ss) (hq:Ae w w.heap.size b tt)
 (h2:left<=1048576) (zA:(ss.length:Int)+bulk ss+tt.length+bulk tt<=left):
 Calls prog 18 #[.agg #[.slice a ss.length c,.slice b tt.length d],XJ left] w fun e w'=>e=.returned (XJ (left -ss.length -bulk ss -tt.length -bulk tt))/\Xz w w':=by
 have hb:Below w.heap.size w (w.alloc (.cells #[.slice a ss.length c,.slice b tt.length d] 38)):=XA;go_enter func18,ntmps18;go_wp2_with fail;refine(GP a c ss _ _ w.heap.size (hr.below hb) (by omega) (by omega)).mono ?_;rintro e w' ⟨rfl,rfl⟩;go_wp2_with fail;refine(GP b d tt _ _ w.heap.size (hq.below hb) (by omega) (by omega)).mono ?_;rintro e w' ⟨rfl,rfl⟩;go_wp2;go_ret;exact⟨rfl,hb⟩
theorem TF (a b:Option Addr) (c d:Nat) (ss tt:List ByteArray) (left:Int) (w:World) (hr:Ae w w.heap.size a ss) (hq:Ae w w.heap.size b tt)
 (hl:ss.length<=maxLen) (hs:∀s∈ss,s.size<=maxLen) (zA:tt.length<=maxLen) (zC:∀s∈tt,s.size<=maxLen)
 (h1:0<=left) (h2:left<=1048576) (zB:left<(ss.length:Int)+bulk ss+tt.length+bulk tt):
 Calls prog 18 #[.agg #[.slice a ss.length c,.slice b tt.length d],XJ left] w fun e w'=>e=.returned (XJ (-1))/\Xz w w':=by
 have hb:Below w.heap.size w (w.alloc (.cells #[.slice a ss.length c,.slice b tt.length d] 38)):=XA;by_cases hn:left<(ss.length:Int)+bulk ss
 ·go_enter func18,ntmps18
  go_wp2_with fail;refine(Jv a c ss _ _ w.heap.size (hr.below hb) hl hs (by omega) (by omega) (by omega)).mono ?_;rintro e w' ⟨rfl,rfl⟩;go_wp2;go_ret;exact⟨rfl,hb⟩
 ·go_enter func18,ntmps18
  go_wp2_with fail;refine(GP a c ss _ _ w.heap.size (hr.below hb) (by omega) (by omega)).mono ?_;rintro e w' ⟨rfl,rfl⟩;go_wp2_with fail;refine(Jv b d tt _ _ w.heap.size (hq.below hb) zA zC (by omega) (by omega) (by omega)).mono ?_;rintro e w' ⟨rfl,rfl⟩;go_wp2;go_ret;exact⟨rfl,hb⟩
theorem Sa (a b:Option Addr) (c d:Nat) (ss tt:List ByteArray) (w:World) (hr:Ae w w.heap.size a ss) (hq:Ae w w.heap.size b tt) (hl:ss.length<=1048576) (zN:tt.length<=1048576):
 Calls prog 20 #[.agg #[.slice a ss.length c,.slice b tt.length d]] w fun e w'=>∃g k,e=.returned (.agg #[.slice (some ⟨g,0,none⟩) ss.length ss.length,.slice (some ⟨k,0,none⟩) tt.length tt.length])/\w.heap.size<=g/\g<k/\
  w'.ownsRow w.heap.size 9 1 (.slice (some ⟨g,0,none⟩) ss.length ss.length) ss.length (ss.map Value.string)/\
  w'.ownsRow w.heap.size 9 1 (.slice (some ⟨k,0,none⟩) tt.length tt.length) tt.length (tt.map Value.string)/\Xz w w':=by
 have zH:Below w.heap.size w (((w.alloc (.cells #[.slice a ss.length c,.slice b tt.length d] 38)).alloc (.cells #[XN,XN] 40)).alloc (.cells #[XN,XN] 40)):=((XA).alloc (by simp) _).alloc (by simp;omega) _;go_enter func20,ntmps20;go_wp2_with fail;refine(GQ a c ss _ (hr.below' zH) hl).mono ?_;rintro e w1 ⟨g,rfl,hg,zC,hb⟩;have zO:=zH.trans (hb.mono (by simp;omega));obtain⟨hc,hf⟩:=IE hb
 have hz:=hb.size;simp at hz hg;go_wp2_with fail;obtain⟨W2,zB⟩:∃W2,W2=w1.setCell (XL (w.heap.size+1+1) 0) (.slice (some ⟨g,0,none⟩) ss.length ss.length):=⟨_,rfl⟩;have zJ:Below w.heap.size w W2:=by rw[zB];exact zO.setCell (by simp;omega) _
 have zR:W2.heap.size=w1.heap.size:=by rw[zB];simp
 have zM:W2.ownsRow (w.heap.size+1) 9 1 (.slice (some ⟨g,0,none⟩) ss.length ss.length) ss.length (ss.map Value.string):=by
  rw[zB];exact(ownsRow_setCell_below zC (by simp) _).mono (by simp)
 have zK:W2.cell? (XL (w.heap.size+1+1) 0)=some (.slice (some ⟨g,0,none⟩) ss.length ss.length):=by rw[zB];simp[go_sem,hc]
 have zI:W2.cell? (XL (w.heap.size+1+1) 1)=some XN:=by rw[zB];simp[go_sem,hc]
 have zG:W2.cell? (XL (w.heap.size+1) 0)=some XN:=by rw[zB];simp[go_sem,hc]
 have zF:W2.cell? (XL (w.heap.size+1) 1)=some XN:=by rw[zB];simp[go_sem,hc]
 have f2:∀o,W2.frozen? ⟨w.heap.size+1+1,o,none⟩=false:=fun o=>by rw[zB];simp[go_sem,hf]
 have f1:∀o,W2.frozen? ⟨w.heap.size+1,o,none⟩=false:=fun o=>by rw[zB];simp[go_sem,hf]
 rw[←zB];clear zB zC hb hc hf;refine(GQ b d tt _ (hq.below' zJ) zN).mono ?_;rintro e w3 ⟨k,rfl,hk,zE,zA⟩;have zT:=zA.size;replace zK:=(zA.cell (p:=⟨w.heap.size+1+1,0,none⟩) (by simp;omega)).trans zK;replace zI:=(zA.cell (p:=⟨w.heap.size+1+1,1,none⟩) (by simp;omega)).trans zI;replace zG:=(zA.cell (p:=⟨w.heap.size+1,0,none⟩) (by simp;omega)).trans zG
 replace zF:=(zA.cell (p:=⟨w.heap.size+1,1,none⟩) (by simp;omega)).trans zF;replace f2:∀o,w3.frozen? ⟨w.heap.size+1+1,o,none⟩=false:=fun o=>(zA.frozen (p:=⟨w.heap.size+1+1,o,none⟩) (by simp;omega)).trans (f2 o);replace f1:∀o,w3.frozen? ⟨w.heap.size+1,o,none⟩=false:=fun o=>(zA.frozen (p:=⟨w.heap.size+1,o,none⟩) (by simp;omega)).trans (f1 o);have zS:=(zM.lt g rfl).2
 have zP:w3.ownsRow (w.heap.size+1) 9 1 (.slice (some ⟨g,0,none⟩) ss.length ss.length) ss.length (ss.map Value.string):=zM.kept (row:=none) ⟨zA.os,zA.tape,zA.output,zA.size,fun i hi _=>zA.block i hi⟩ (.inr (by simp[Value.ownBlock]));go_wp2
 refine bodyPost_ret (v:=.agg #[.slice (some ⟨g,0,none⟩) ss.length ss.length,.slice (some ⟨k,0,none⟩) tt.length tt.length]) (by simp[results,results20,go_sem,zG,zF]) rfl ⟨g,k,rfl,by omega,by omega,?_,?_,?_⟩
 ·refine(ownsRow_setCell_other (ownsRow_setCell_other (ownsRow_setCell_other zP ?_ _) ?_ _) ?_ _).mono (by omega)<;>(simp[Value.ownBlock];omega)
 ·refine(ownsRow_setCell_other (ownsRow_setCell_other (ownsRow_setCell_other zE ?_ _) ?_ _) ?_ _).mono (by omega)<;>(simp[Value.ownBlock];omega)
 ·exact(zJ.trans (zA.mono (by omega))).setCell (by simp;omega) _|>.setCell (by simp) _|>.setCell (by simp) _
def Ci (ss tt:List ByteArray):Bool:=decide (ss.length+tt.length<=4000)&&(ss++tt).all (fun s=>decide (s.size<=5000))
def CY (ss:List ByteArray):Bool:=ss.all (fun s=>decide (s.size<=5000))
theorem Jt (ss tt:List ByteArray):Ci ss tt=(decide (ss.length+tt.length<=4000)&&(CY ss&&CY tt)):=by simp[Ci,CY]
theorem IB (ss:List ByteArray) (k:Nat) (s:ByteArray) (h:ss[k]?=some s):CY (ss.take (k+1))=(CY (ss.take k)&&decide (s.size<=5000)):=by
 obtain⟨zA,rfl⟩:=XC h;unfold CY;rw[XE zA,List.all_append,List.all_cons,List.all_nil,Bool.and_true]
theorem Hq (ss:List ByteArray) (k:Nat) (s:ByteArray) (h:ss[k]?=some s) (hs:5000<s.size):CY ss=false:=by
 simp only[CY,List.all_eq_false];exact⟨s,XG h,by simp;omega⟩
theorem Ew (a b:Option Addr) (c d:Nat) (ss tt:List ByteArray) (w:World) (B:Nat) (hB:B<=w.heap.size) (hr:Ae w B a ss) (hq:Ae w B b tt) (hl:ss.length<=1048576) (zJ:tt.length<=1048576)
 (hs:∀s∈ss,s.size<=1048576) (zF:∀s∈tt,s.size<=1048576):
 Calls prog 53 #[.agg #[.slice a ss.length c,.slice b tt.length d]] w fun e w'=>e=.returned (.bool (Ci ss tt))/\Xz w w':=by
 have hb:Below w.heap.size w (w.alloc (.cells #[.slice a ss.length c,.slice b tt.length d] 40)):=XA;go_enter func53,ntmps53;go_wp2
 go_loop [3] (fun i=>∃k:Nat,k<=ss.length/\i=XJ k/\CY (ss.take k)=true) (fun i=>ss.length -(intOf i).toNat)
 case atStart=>exact⟨0,Nat.zero_le _,rfl,by simp[CY]⟩
 case round=>
  obtain⟨k,hk,rfl,zC⟩:=hrel;by_cases hlt:k<ss.length
  ·obtain⟨p,off,ha,hp,hc⟩:=hr.at hlt
   subst ha;have zH:=(hb.cell (p:=⟨p,off+k,none⟩) (by simp;omega)).trans (hc k ss[k] (XD hlt));have zB:Hid (CY (ss.take (k+1))=(CY (ss.take k)&&decide (ss[k].size<=5000))):=IB ss k _ (XD hlt);have zE:Hid (5000<ss[k].size->CY ss=false):=Hq ss k _ (XD hlt);have zG:=hs ss[k] (List.getElem_mem hlt);clear hc hs zF;generalize ss[k]=s at *
   by_cases hbig:5000<s.size
   ·go_wp2
    go_ret;exact⟨by rw[Jt,zE.o hbig];simp,hb⟩
   ·go_wp2
    refine⟨⟨k+1,by omega,by go_num,?_⟩,by simp[intOf];omega⟩;rw[zB.o,zC];simp;omega
  ·rw[XF (by omega)] at zC
   go_wp2
   go_loop [4] (fun i=>∃k:Nat,k<=tt.length/\i=XJ k/\CY (tt.take k)=true) (fun i=>tt.length -(intOf i).toNat)
   case atStart=>exact⟨0,Nat.zero_le _,rfl,by simp[CY]⟩
   case round=>
    obtain⟨k2,zI,rfl,zA⟩:=hrel;by_cases hlt2:k2<tt.length
    ·obtain⟨p,off,ha,hp,hc⟩:=hq.at hlt2
     subst ha;have zH:=(hb.cell (p:=⟨p,off+k2,none⟩) (by simp;omega)).trans (hc k2 tt[k2] (XD hlt2));have zB:Hid (CY (tt.take (k2+1))=(CY (tt.take k2)&&decide (tt[k2].size<=5000))):=IB tt k2 _ (XD hlt2);have zE:Hid (5000<tt[k2].size->CY tt=false):=Hq tt k2 _ (XD hlt2);have zG:=zF tt[k2] (List.getElem_mem hlt2);clear hc hs zF;generalize tt[k2]=s at *
     by_cases hbig:5000<s.size
     ·go_wp2
      go_ret;exact⟨by rw[Jt,zE.o hbig];simp,hb⟩
     ·go_wp2
      refine⟨⟨k2+1,by omega,by go_num,?_⟩,by simp[intOf];omega⟩;rw[zB.o,zA];simp;omega
    ·rw[XF (by omega)] at zA
     go_wp2;go_ret;refine⟨?_,hb⟩;rw[Jt,zC,zA];simp;omega
theorem Sb (a b a' b':Option Addr) (c d c' d':Nat) (ss tt:List ByteArray) (w:World) (hr:Ae w w.heap.size a ss) (hq:Ae w w.heap.size b tt) (zC:Ae w w.heap.size a' ss) (zB:Ae w w.heap.size b' tt)
 (hl:ss.length<=1048576) (zE:tt.length<=1048576):
 Calls prog 23 #[.agg #[.slice a ss.length c,.slice b tt.length d],.agg #[.slice a' ss.length c',.slice b' tt.length d']] w fun e w'=>e=.returned (.bool true)/\Xz w w':=by
 have hb:Below w.heap.size w ((w.alloc (.cells #[.slice a ss.length c,.slice b tt.length d] 40)).alloc (.cells #[.slice a' ss.length c',.slice b' tt.length d'] 40)):=(XA).alloc (by simp) _;go_enter func23,ntmps23;go_wp2_with fail;refine(GR a a' c c' ss _ _ _ (hr.below hb) (zC.below hb) hl).mono ?_;rintro e w' ⟨rfl,n,rfl⟩;have zA:=BP hb n;go_wp2_with fail
 refine(GR b b' d d' tt _ _ _ (hq.below zA) (zB.below zA) zE).mono ?_;rintro e w' ⟨rfl,m,rfl⟩;go_wp2;go_ret;exact⟨rfl,BP hb (n+m)⟩
structure Vd where
 wd:Int
 lim:Int
 ss:List ByteArray
 tt:List ByteArray
 sw:Int
 now:Int
 given:Int
 births:Int
 ks:List Kd
 ps:List Pd
 ls:List Ld
 ph:Int
 qs:List ByteArray
 ms:List ByteArray
 top:Int
 at_:Int
 ro:Int
structure Va where
 sa:Option Addr
 sc:Nat
 ta:Option Addr
 tc:Nat
 ka:Option Addr
 kc:Nat
 pa:Option Addr
 pc:Nat
 la:Option Addr
 lc:Nat
 qa:Option Addr
 qc:Nat
 ma:Option Addr
 mc:Nat
structure Cb (w:World) (B:Nat) (a:Va) (v:Vd):Prop where
 s:Ae w B a.sa v.ss
 t:Ae w B a.ta v.tt
 st:Bt w B a.ka a.pa a.la v.ks v.ps v.ls
 q:Ae w B a.qa v.qs
 m:Ae w B a.ma v.ms
theorem Cb.keep {w w':World} {B:Nat} {a:Va} {v:Vd} (h:Cb w B a v) (hb:Below B w w'):Cb w' B a v:=
 ⟨h.s.below hb,h.t.below hb,h.st.keep hb,h.q.below hb,h.m.below hb⟩
theorem Cb.mono {w:World} {B B':Nat} {a:Va} {v:Vd} (h:Cb w B a v) (hb:B<=B'):Cb w B' a v:=
 ⟨h.s.mono hb,h.t.mono hb,h.st.mono hb,h.q.mono hb,h.m.mono hb⟩
theorem Cb.below' {w w':World} {a:Va} {v:Vd} (h:Cb w w.heap.size a v) (hb:Xz w w'):Cb w' w'.heap.size a v:=(h.keep hb).mono hb.size
structure WJ (a:Va) (v:Vd):Prop where
 s:a.sa=none->v.ss.length=0/\a.sc=0
 t:a.ta=none->v.tt.length=0/\a.tc=0
 m:v.ms.length<=a.mc
structure CK (v:Vd):Prop where
 s:v.ss.length<=1048576
 t:v.tt.length<=1048576
 ss:∀s∈v.ss,s.size<=1048576
 tt:∀s∈v.tt,s.size<=1048576
 st:Pb v.ks v.ps v.ls
 r:GO v.qs v.ms
 rn:AC v.ks<=1048576
structure Ga (v:Vd) (r:Rs):Prop where
 wd:1<=v.wd/\v.wd<=8
 lim:0<=v.lim/\v.lim<=1000000
 log:Ci v.ss v.tt=true
 run:CV v.wd r0 (v.ss++v.tt) r
 same:(v.wd=v.sw/\r.now=v.now/\r.given=v.given/\r.births=v.births)/\r.ks=v.ks/\r.ps=v.ps/\r.ls=v.ls
 round:AO v.wd v.births v.ph v.top v.at_ v.ro v.qs v.ms
def Cj (v:Vd):Prop:=∃r,Ga v r
theorem Fp {ss tt:List ByteArray} (h:Ci ss tt=true):(ss++tt).length<=4000:=by
 unfold Ci at h;simp at h;rw[List.length_append];exact h.1
theorem EG {w:World} {b:Nat} {a0 a1 a2 a3 a4 a5 a6 a7 a8 a9 zG zF zA zC zH zE zB:Value} (h:Aa w b [a0,a1,a2,a3,a4,a5,a6,a7,a8,a9,zG,zF,zA,zC,zH,zE,zB]):w.cell? (XL b 0)=some a0/\w.cell? (XL b 1)=some a1/\w.cell? (XL b 2)=some a2/\w.cell? (XL b 3)=some a3/\w.cell? (XL b 4)=some a4/\w.cell? (XL b 5)=some a5/\w.cell? (XL b 6)=some a6/\w.cell? (XL b 7)=some a7/\w.cell? (XL b 8)=some a8/\w.cell? (XL b 9)=some a9/\w.cell? (XL b 10)=some zG/\w.cell? (XL b 11)=some zF/\w.cell? (XL b 12)=some zA/\w.cell? (XL b 13)=some zC/\w.cell? (XL b 14)=some zH/\w.cell? (XL b 15)=some zE/\w.cell? (XL b 16)=some zB:=
 ⟨(h 0 _ rfl).1,(h 1 _ rfl).1,(h 2 _ rfl).1,(h 3 _ rfl).1,(h 4 _ rfl).1,(h 5 _ rfl).1,(h 6 _ rfl).1,(h 7 _ rfl).1,(h 8 _ rfl).1,(h 9 _ rfl).1,(h 10 _ rfl).1,(h 11 _ rfl).1,(h 12 _ rfl).1,(h 13 _ rfl).1,(h 14 _ rfl).1,(h 15 _ rfl).1,(h 16 _ rfl).1⟩
structure Qc (v:Vd):Prop where
 s:v.ss.length<=maxLen
 ss:∀s∈v.ss,s.size<=maxLen
 t:v.tt.length<=maxLen
 tt:∀s∈v.tt,s.size<=maxLen
 k:Mp v.ks
 p:Mq v.ps
 l:Mr v.ls
 q:v.qs.length<=maxLen
 qs:∀s∈v.qs,s.size<=maxLen
 m:v.ms.length<=maxLen
 ms:∀s∈v.ms,s.size<=maxLen
theorem Jc (v:Vd) (a:Va) (w:World) (hr:Cb w w.heap.size a v) (hm:Qc v):
 Calls prog 27 #[.agg #[XJ v.wd,XJ v.lim,.slice a.sa v.ss.length a.sc,.slice a.ta v.tt.length a.tc,XJ v.sw,XJ v.now,XJ v.given,XJ v.births,.slice a.ka v.ks.length a.kc,.slice a.pa v.ps.length a.pc,.slice a.la v.ls.length a.lc,XJ v.ph,.slice a.qa v.qs.length a.qc,.slice a.ma v.ms.length a.mc,XJ v.top,XJ v.at_,XJ v.ro],XJ 1048576] w fun e w'=>∃r:Int,e=.returned (XJ r)/\Xz w w'/\(0<=r->CK v):=by
 obtain⟨W,hW⟩:∃W,W=w.alloc (.cells #[XJ v.wd,XJ v.lim,.slice a.sa v.ss.length a.sc,.slice a.ta v.tt.length a.tc,XJ v.sw,XJ v.now,XJ v.given,XJ v.births,.slice a.ka v.ks.length a.kc,.slice a.pa v.ps.length a.pc,.slice a.la v.ls.length a.lc,XJ v.ph,.slice a.qa v.qs.length a.qc,.slice a.ma v.ms.length a.mc,XJ v.top,XJ v.at_,XJ v.ro] 60):=⟨_,rfl⟩;have bW:=(Aq hW).1;have xW:=(Aq hW).2.2
 have HX:Hid (∀X,Xz W X->Aa X w.heap.size [XJ v.wd,XJ v.lim,.slice a.sa v.ss.length a.sc,.slice a.ta v.tt.length a.tc,XJ v.sw,XJ v.now,XJ v.given,XJ v.births,.slice a.ka v.ks.length a.kc,.slice a.pa v.ps.length a.pc,.slice a.la v.ls.length a.lc,XJ v.ph,.slice a.qa v.qs.length a.qc,.slice a.ma v.ms.length a.mc,XJ v.top,XJ v.at_,XJ v.ro]):=fun X hX=>Aa.below xW hX;have HW:Hid _:=hW;have HR:Hid _:=hr
 have HM:Hid _:=hm;have hL:Calls prog 18 #[.agg #[.slice a.sa v.ss.length a.sc,.slice a.ta v.tt.length a.tc],XJ 1048576] W fun e w'=>∃r:Int,e=.returned (XJ r)/\Xz W w'/\r<=1048576/\(0<=r->(v.ss.length:Int)+bulk v.ss+v.tt.length+bulk v.tt<=1048576):=by
  by_cases hfit:(v.ss.length:Int)+bulk v.ss+v.tt.length+bulk v.tt<=1048576
  ·refine(RZ a.sa a.ta a.sc a.tc v.ss v.tt 1048576 W (hr.s.below' bW) (hr.t.below' bW) (by omega) hfit).mono ?_
   rintro e w' ⟨rfl,hb⟩;exact⟨_,rfl,hb,by omega,fun _=>hfit⟩
  ·refine(TF a.sa a.ta a.sc a.tc v.ss v.tt 1048576 W (hr.s.below' bW) (hr.t.below' bW) hm.s hm.ss hm.t hm.tt (by omega) (by omega) (by omega)).mono ?_
   rintro e w' ⟨rfl,hb⟩;exact⟨_,rfl,hb,by omega,fun h=>by omega⟩
 have HL:Hid _:=hL;obtain⟨y0,y1,y2,y3,y4,y5,y6,y7,y8,y9,zC,zJ,zG,zI,zB,zH,zF⟩:=EG xW;clear hW xW hr hm hL;go_enter func27,ntmps27;go_wp2_with fail;rw[←HW.o];refine Calls.mono HL.o ?_;rintro e w1 ⟨r1,rfl,zN,zZ,zS⟩;have zO:Hid _:=zN;have zK:Hid _:=bW.trans (zN.mono bW.size);clear y0 y1 y2 y3 y4 y5 y6 y7 y8 y9 zC zJ zG zI zB zH zF zN HL HW;by_cases n1:r1<0
 ·go_wp2
  go_ret;exact⟨_,rfl,zK.o,fun h=>by omega⟩
 ·have zW:Hid _:=zS (by omega)
  obtain⟨y0,y1,y2,y3,y4,y5,y6,y7,y8,y9,zC,zJ,zG,zI,zB,zH,zF⟩:=EG (HX.o w1 zO.o);have HS:Hid _:=QU v.sw v.now v.given v.births a.ka a.pa a.la a.kc a.pc a.lc v.ks v.ps v.ls r1 w1 (HR.o.st.below' zK.o) HM.o.k HM.o.p HM.o.l (by omega) (by omega);clear zS;go_wp2_with fail;refine Calls.mono HS.o ?_;rintro e w2 ⟨r2,rfl,zM,yA,zU⟩;have zY:Hid _:=zO.o.trans (zM.mono zO.o.size)
  have zA:Hid _:=zK.o.trans (zM.mono zK.o.size);clear y0 y1 y2 y3 y4 y5 y6 y7 y8 y9 zC zJ zG zI zB zH zF zM HS;by_cases n2:r2<0
  ·go_wp2
   go_ret;exact⟨_,rfl,zA.o,fun h=>by omega⟩
  ·have zP:Hid _:=zU (by omega)
   obtain⟨y0,y1,y2,y3,y4,y5,y6,y7,y8,y9,zC,zJ,zG,zI,zB,zH,zF⟩:=EG (HX.o w2 zY.o);have zT:Hid _:=Ob v.ph v.top v.at_ v.ro a.qa a.ma a.qc a.mc v.qs v.ms r2 w2 (HR.o.q.below' zA.o) (HR.o.m.below' zA.o) HM.o.q HM.o.qs HM.o.m HM.o.ms (by omega) (by omega);clear zU;go_wp2_with fail;refine Calls.mono zT.o ?_;rintro e w3 ⟨r3,rfl,zV,zR⟩;have zE:Hid _:=zA.o.trans (zV.mono zA.o.size)
   have zX:Hid (0<=r3->CK v):=fun h=>by
    have h1:=zW.o;refine⟨by omega,by omega,fun s hs=> ?_,fun s hs=> ?_,zP.o.1,zR h,zP.o.2⟩
    ·obtain⟨i,hi⟩:=List.getElem?_of_mem hs
     have:=Ow v.ss i s hi;omega
    ·obtain⟨i,hi⟩:=List.getElem?_of_mem hs
     have:=Ow v.tt i s hi;omega
   clear y0 y1 y2 y3 y4 y5 y6 y7 y8 y9 zC zJ zG zI zB zH zF zV zT zR;by_cases n3:r3<0
   ·go_wp2
    go_ret;exact⟨_,rfl,zE.o,fun h=>by omega⟩
   ·go_wp2
    go_ret;exact⟨_,rfl,zE.o,zX.o⟩
theorem Jd (v:Vd) (a b:Va) (w:World) (hr:Cb w w.heap.size a v) (hq:Cb w w.heap.size b v) (hf:CK v):
 Calls prog 22 #[.agg #[XJ v.wd,XJ v.lim,.slice a.sa v.ss.length a.sc,.slice a.ta v.tt.length a.tc,XJ v.sw,XJ v.now,XJ v.given,XJ v.births,.slice a.ka v.ks.length a.kc,.slice a.pa v.ps.length a.pc,.slice a.la v.ls.length a.lc,XJ v.ph,.slice a.qa v.qs.length a.qc,.slice a.ma v.ms.length a.mc,XJ v.top,XJ v.at_,XJ v.ro],.agg #[XJ v.wd,XJ v.lim,.slice b.sa v.ss.length b.sc,.slice b.ta v.tt.length b.tc,XJ v.sw,XJ v.now,XJ v.given,XJ v.births,.slice b.ka v.ks.length b.kc,.slice b.pa v.ps.length b.pc,.slice b.la v.ls.length b.lc,XJ v.ph,.slice b.qa v.qs.length b.qc,.slice b.ma v.ms.length b.mc,XJ v.top,XJ v.at_,XJ v.ro]] w fun e w'=>e=.returned (.bool true)/\Xz w w':=by
 obtain⟨W,hW⟩:∃W,W=(w.alloc (.cells #[XJ v.wd,XJ v.lim,.slice a.sa v.ss.length a.sc,.slice a.ta v.tt.length a.tc,XJ v.sw,XJ v.now,XJ v.given,XJ v.births,.slice a.ka v.ks.length a.kc,.slice a.pa v.ps.length a.pc,.slice a.la v.ls.length a.lc,XJ v.ph,.slice a.qa v.qs.length a.qc,.slice a.ma v.ms.length a.mc,XJ v.top,XJ v.at_,XJ v.ro] 44)).alloc (.cells #[XJ v.wd,XJ v.lim,.slice b.sa v.ss.length b.sc,.slice b.ta v.tt.length b.tc,XJ v.sw,XJ v.now,XJ v.given,XJ v.births,.slice b.ka v.ks.length b.kc,.slice b.pa v.ps.length b.pc,.slice b.la v.ls.length b.lc,XJ v.ph,.slice b.qa v.qs.length b.qc,.slice b.ma v.ms.length b.mc,XJ v.top,XJ v.at_,XJ v.ro] 44):=⟨_,rfl⟩
 have bW:=(AP hW).1;have x0:=(AP hW).2.2.1;have x1:Aa W (w.heap.size+1) [XJ v.wd,XJ v.lim,.slice b.sa v.ss.length b.sc,.slice b.ta v.tt.length b.tc,XJ v.sw,XJ v.now,XJ v.given,XJ v.births,.slice b.ka v.ks.length b.kc,.slice b.pa v.ps.length b.pc,.slice b.la v.ls.length b.lc,XJ v.ph,.slice b.qa v.qs.length b.qc,.slice b.ma v.ms.length b.mc,XJ v.top,XJ v.at_,XJ v.ro]:=by
  have h1:=Aa.new (w.alloc (.cells #[XJ v.wd,XJ v.lim,.slice a.sa v.ss.length a.sc,.slice a.ta v.tt.length a.tc,XJ v.sw,XJ v.now,XJ v.given,XJ v.births,.slice a.ka v.ks.length a.kc,.slice a.pa v.ps.length a.pc,.slice a.la v.ls.length a.lc,XJ v.ph,.slice a.qa v.qs.length a.qc,.slice a.ma v.ms.length a.mc,XJ v.top,XJ v.at_,XJ v.ro] 44)) [XJ v.wd,XJ v.lim,.slice b.sa v.ss.length b.sc,.slice b.ta v.tt.length b.tc,XJ v.sw,XJ v.now,XJ v.given,XJ v.births,.slice b.ka v.ks.length b.kc,.slice b.pa v.ps.length b.pc,.slice b.la v.ls.length b.lc,XJ v.ph,.slice b.qa v.qs.length b.qc,.slice b.ma v.ms.length b.mc,XJ v.top,XJ v.at_,XJ v.ro] 44
  rw[World.size_alloc] at h1;rw[hW];exact h1
 have HX:Hid (∀X,Xz W X->Aa X w.heap.size [XJ v.wd,XJ v.lim,.slice a.sa v.ss.length a.sc,.slice a.ta v.tt.length a.tc,XJ v.sw,XJ v.now,XJ v.given,XJ v.births,.slice a.ka v.ks.length a.kc,.slice a.pa v.ps.length a.pc,.slice a.la v.ls.length a.lc,XJ v.ph,.slice a.qa v.qs.length a.qc,.slice a.ma v.ms.length a.mc,XJ v.top,XJ v.at_,XJ v.ro]/\Aa X (w.heap.size+1) [XJ v.wd,XJ v.lim,.slice b.sa v.ss.length b.sc,.slice b.ta v.tt.length b.tc,XJ v.sw,XJ v.now,XJ v.given,XJ v.births,.slice b.ka v.ks.length b.kc,.slice b.pa v.ps.length b.pc,.slice b.la v.ls.length b.lc,XJ v.ph,.slice b.qa v.qs.length b.qc,.slice b.ma v.ms.length b.mc,XJ v.top,XJ v.at_,XJ v.ro]):=fun X hX=>⟨Aa.below x0 hX,Aa.below x1 hX⟩
 have HR:Hid _:=And.intro (hr.below' bW) (hq.below' bW);have HW:Hid _:=hW;obtain⟨y0,y1,y2,y3,y4,y5,y6,y7,y8,y9,zE,zN,zG,zM,zC,zH,zF⟩:=EG x0;obtain⟨z0,z1,z2,z3,z4,z5,z6,z7,z8,z9,zP,zK,As,zI,zJ,zR,zO⟩:=EG x1;clear hW x0 x1 hr hq;have HL:Hid _:=Sb a.sa a.ta b.sa b.ta a.sc a.tc b.sc b.tc v.ss v.tt W HR.o.1.s HR.o.1.t HR.o.2.s HR.o.2.t hf.s hf.t;go_enter func22,ntmps22;go_upto_region 1 with fail
 rw[←HW.o];clear HW;go_wp2_with fail;refine Calls.mono HL.o ?_;rintro e w1 ⟨rfl,zT⟩;have zB:Hid _:=zT;clear y0 y1 y2 y3 y4 y5 y6 y7 y8 y9 zE zN zG zM zC zH zF z0 z1 z2 z3 z4 z5 z6 z7 z8 z9 zP zK As zI zJ zR zO zT HL;obtain⟨y0,y1,y2,y3,y4,y5,y6,y7,y8,y9,zE,zN,zG,zM,zC,zH,zF⟩:=EG (HX.o w1 zB.o).1;obtain⟨z0,z1,z2,z3,z4,z5,z6,z7,z8,z9,zP,zK,As,zI,zJ,zR,zO⟩:=EG (HX.o w1 zB.o).2
 have HS:Hid _:=Oa v.sw v.now v.given v.births a.ka a.pa a.la b.ka b.pa b.la a.kc a.pc a.lc b.kc b.pc b.lc v.ks v.ps v.ls w1 (HR.o.1.st.below' zB.o) (HR.o.2.st.below' zB.o) hf.st;go_wp2_with fail;refine Calls.mono HS.o ?_;rintro e w2 ⟨rfl,zS⟩;have zA:Hid _:=zB.o.trans (zS.mono zB.o.size)
 clear y0 y1 y2 y3 y4 y5 y6 y7 y8 y9 zE zN zG zM zC zH zF z0 z1 z2 z3 z4 z5 z6 z7 z8 z9 zP zK As zI zJ zR zO zS HS;obtain⟨y0,y1,y2,y3,y4,y5,y6,y7,y8,y9,zE,zN,zG,zM,zC,zH,zF⟩:=EG (HX.o w2 zA.o).1;obtain⟨z0,z1,z2,z3,z4,z5,z6,z7,z8,z9,zP,zK,As,zI,zJ,zR,zO⟩:=EG (HX.o w2 zA.o).2
 have HQ:Hid _:=Oc v.ph v.top v.at_ v.ro a.qa a.ma b.qa b.ma a.qc a.mc b.qc b.mc v.qs v.ms w2 (HR.o.1.q.below' zA.o) (HR.o.1.m.below' zA.o) (HR.o.2.q.below' zA.o) (HR.o.2.m.below' zA.o) hf.r;go_wp2_with fail;refine Calls.mono HQ.o ?_;rintro e w3 ⟨rfl,zU⟩;have zV:Hid _:=bW.trans ((zA.o.trans (zU.mono zA.o.size)).mono bW.size)
 clear y0 y1 y2 y3 y4 y5 y6 y7 y8 y9 zE zN zG zM zC zH zF z0 z1 z2 z3 z4 z5 z6 z7 z8 z9 zP zK As zI zJ zR zO zU HQ;go_wp2;go_ret;exact⟨rfl,zV.o⟩
end Go.Proofs.YtpekbmegopfhfaaGreatDoor
