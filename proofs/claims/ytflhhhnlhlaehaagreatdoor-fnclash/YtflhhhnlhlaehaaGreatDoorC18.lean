import Derived.Test.YtflhhhnlhlaehaaGreatDoorC17
import Derived.Deep.MidRow
import Derived.Laws.ResultCell
import Derived.Laws.OwnMore
set_option maxRecDepth 100000
set_option maxHeartbeats 16000000
namespace Go.Proofs.YtflhhhnlhlaehaaGreatDoor
open Go.ChangeShapes Go.WideShapes Go.ChangeAt Go.RowKit _root_.Go.Proofs.Tryz
def r0:Rs:=⟨⟨#[]⟩,0,0,0,0,[],[],[]⟩
def Gd (wd:Int) (r:Rs) (x:ByteArray) (r':Rs):Prop:=(Ay x wd).ok=true/\Eb wd r.now r.given r.births r.ks r.ps r.ls (Ay x wd).k (Ay x wd).sum (Ay x wd).name (Ay x wd).n (Ay x wd).t (Ay x wd).ss r'
def SV (wd:Int) (r:Rs) (x:ByteArray):Prop:=(Ay x wd).ok=false∨∃c a b,Hk wd r.now r.given r.births r.ks r.ps r.ls (Ay x wd).k (Ay x wd).sum (Ay x wd).name (Ay x wd).n (Ay x wd).t (Ay x wd).ss c a b
def Cn (wd:Int):Rs->List ByteArray->Rs->Prop
 |r,[],r'=>r'=r
 |r,x::xs,r'=>∃r1,Gd wd r x r1/\Cn wd r1 xs r'
def Eg (wd:Int) (xs:List ByteArray) (n:Nat):Prop:=∃k r x,n=k+1/\xs[k]?=some x/\Cn wd r0 (xs.take k) r/\SV wd r x
def Rs.ok (wd:Int) (r:Rs):Prop:=EH wd r.now r.given r.births r.ks r.ps r.ls
theorem Cn.snoc {wd:Int} {x:ByteArray} {r1 r2:Rs} (h2:Gd wd r1 x r2):∀{xs:List ByteArray} {r:Rs},Cn wd r xs r1->Cn wd r (xs++[x]) r2
 |[],r,h=>by
  obtain rfl:r1=r:=h;exact⟨r2,h2,rfl⟩
 |y::ys,r,h=>by
  obtain⟨r3,h3,h4⟩:=h;exact⟨r3,h3,Cn.snoc h2 h4⟩
theorem Gd.det {wd:Int} {r a b:Rs} {x:ByteArray} (h:Gd wd r x a) (k:Gd wd r x b):a=b:=h.2.det k.2
theorem Gd.ok {wd:Int} {r r':Rs} {x:ByteArray} (h:Gd wd r x r') (hr:r.ok wd):r'.ok wd:=EH.step hr (GJ h.1).1 h.2
theorem Gd.not {wd:Int} {r r':Rs} {x:ByteArray} (h:Gd wd r x r') (hr:r.ok wd):¬SV wd r x:=by
 rintro(e|⟨c,a,b,e⟩)
 ·rw[h.1] at e
  cases e
 ·exact e.not hr.kso.nd h.2
theorem Cn.det {wd:Int}:∀{xs:List ByteArray} {r a b:Rs},Cn wd r xs a->Cn wd r xs b->a=b
 |[],r,a,b,h,k=>by
  have h1:=h;have h2:=k;rw[h1,h2]
 |x::xs,r,a,b,h,k=>by
  obtain⟨r1,h1,h2⟩:=h;obtain⟨r2,k1,k2⟩:=k;obtain rfl:=h1.det k1;exact Cn.det h2 k2
theorem Cn.ok {wd:Int}:∀{xs:List ByteArray} {r r':Rs},Cn wd r xs r'->r.ok wd->r'.ok wd
 |[],r,r',h,hr=>by
  obtain rfl:r'=r:=h;exact hr
 |x::xs,r,r',h,hr=>by
  obtain⟨r1,h1,h2⟩:=h;exact Cn.ok h2 (h1.ok hr)
theorem Cn.at {wd:Int}:∀{xs:List ByteArray} {r r':Rs},Cn wd r xs r'->∀{k:Nat} {x:ByteArray},xs[k]?=some x->∃r1 r2,Cn wd r (xs.take k) r1/\Gd wd r1 x r2
 |[],r,r',h,k,x,hx=>by simp at hx
 |y::ys,r,r',h,k,x,hx=>by
  obtain⟨r3,h3,h4⟩:=h;cases k with
  |zero=>
   simp at hx;subst hx;exact⟨r,r3,rfl,h3⟩
  |succ k=>
   obtain⟨r1,r2,h5,h6⟩:=Cn.at h4 (k:=k) (x:=x) (by simpa using hx);exact⟨r1,r2,⟨r3,h3,h5⟩,h6⟩
theorem Fm {wd:Int} (h1:1<=wd) (h8:wd<=8):r0.ok wd:=EH.zero h1 h8
theorem Eg.not {wd:Int} {xs:List ByteArray} {n:Nat} {r:Rs} (h1:1<=wd) (h8:wd<=8) (h:Eg wd xs n):¬Cn wd r0 xs r:=fun hr=>by
 obtain⟨k,r1,x,rfl,hx,h2,h3⟩:=h;obtain⟨r2,r3,h4,h5⟩:=hr.at hx;obtain rfl:=h2.det h4;exact h5.not (h2.ok (Fm h1 h8)) h3
def Tz (wd:Int) (xs:List ByteArray) (x:An):Prop:=
 (¬((1<=wd/\wd<=8)/\xs.length<=4000)/\x=⟨1,0,0,0,0,0,⟨#[]⟩,⟨#[]⟩,⟨#[]⟩,[],[],[]⟩)∨
 (((1<=wd/\wd<=8)/\xs.length<=4000)/\(
   (∃n:Nat,Eg wd xs n/\x=⟨7,0,0,0,0,n,⟨#[]⟩,⟨#[]⟩,⟨#[]⟩,[],[],[]⟩)∨
   (∃r,Cn wd r0 xs r/\x=⟨0,wd,r.now,r.given,r.births,0,⟨#[]⟩,⟨#[]⟩,⟨#[]⟩,r.ks,r.ps,r.ls⟩)))
def Bw (w:World) (b:Nat) (ph:Int) (Q M:Value) (top at_ ro:Int):Prop:=
 w.cell? ⟨b,0,none⟩=some (.int .i64 ph)/\w.cell? ⟨b,1,none⟩=some Q/\w.cell? ⟨b,2,none⟩=some M/\w.cell? ⟨b,3,none⟩=some (.int .i64 top)/\
  w.cell? ⟨b,4,none⟩=some (.int .i64 at_)/\w.cell? ⟨b,5,none⟩=some (.int .i64 ro)/\b<w.heap.size
theorem Bw.new (w:World) (ph top at_ ro:Int) (Q M:Value) (t:TypeId):Bw (w.alloc (.cells #[.int .i64 ph,Q,M,.int .i64 top,.int .i64 at_,.int .i64 ro] t)) w.heap.size ph Q M top at_ ro:=
 ⟨by simp,by simp,by simp,by simp,by simp,by simp,by simp⟩
theorem Bw.keep {w w':World} {b B:Nat} {ph top at_ ro:Int} {Q M:Value} (h:Bw w b ph Q M top at_ ro) (hb:Below B w w') (hB:b<B):Bw w' b ph Q M top at_ ro:=by
 obtain⟨h0,h1,h2,h3,h4,h5,h7⟩:=h;exact⟨(hb.cell (p:=⟨b,0,none⟩) hB).trans h0,(hb.cell (p:=⟨b,1,none⟩) hB).trans h1,(hb.cell (p:=⟨b,2,none⟩) hB).trans h2,(hb.cell (p:=⟨b,3,none⟩) hB).trans h3,
  (hb.cell (p:=⟨b,4,none⟩) hB).trans h4,(hb.cell (p:=⟨b,5,none⟩) hB).trans h5,Uy h7 hb.size⟩
theorem Bw.below {w w':World} {b:Nat} {ph top at_ ro:Int} {Q M:Value} (h:Bw w b ph Q M top at_ ro) (hb:Uq w w'):Bw w' b ph Q M top at_ ro:=h.keep hb h.2.2.2.2.2.2
structure FT (qs ms:List ByteArray):Prop where
 q:qs.length<=1048576
 m:ms.length<=1048576
section
attribute [local go_sem↓] Go.wp_at_zero Go.wp_at_succ
theorem Mn (ph top at_ ro:Int) (q a:Option Addr) (ql qc ac:Nat) (ms:List ByteArray) (w:World) (zD:Ad w w.heap.size a ms) (hl:ms.length<=1048576):
 Calls prog 108 #[.agg #[.int .i64 ph,.slice q ql qc,.slice a ms.length ac,.int .i64 top,.int .i64 at_,.int .i64 ro]] w fun e w'=>∃b c f,e=.returned (.map (some b))/\w.heap.size<=b/\BZ w' 113 b ms.length c f/\MK ms f c/\Uq w w':=by
 have zM:= @run_makeMap prog;go_enter func108,ntmps108;go_wp2;obtain⟨W0,zB⟩:∃W,W=(w.alloc (Obj.cells #[.int .i64 ph,.slice q ql qc,.slice a ms.length ac,.int .i64 top,.int .i64 at_,.int .i64 ro] 34)).alloc (Obj.map #[] 0):=⟨_,rfl⟩;have zJ:Below w.heap.size w W0:=by
  rw[zB];exact(Ur).alloc (by simp) _
 have zP:W0.heap.size=w.heap.size+2:=by rw[zB];simp
 have zK:BZ W0 113 (w.heap.size+1) 0 0 (fun _=>none):=by
  have:=BZ.new (w.alloc (Obj.cells #[.int .i64 ph,.slice q ql qc,.slice a ms.length ac,.int .i64 top,.int .i64 at_,.int .i64 ro] 34)) 113;rw[zB];rw[World.size_alloc] at this;exact this
 rw[←zB];clear zB zM
 go_loopw [10] (fun i wr=>∃(k c:Nat) (f:Lit->Option Value),k<=ms.length/\i=.int .i64 k/\Hid (BZ wr 113 (w.heap.size+1) k c f)/\Hid (MK (ms.take k) f c)/\W0.grownBy wr (some (w.heap.size+1))) (fun i _=>ms.length -(intOf i).toNat)
 case atStart=>exact⟨0,0,_,Nat.zero_le _,rfl,zK,by rw[List.take_zero];exact MK.nil,Il _ _⟩
 case round=>
  obtain⟨k,c,f,hk,rfl,HM,HF,zE⟩:=hrel;have zC:Below w.heap.size w wr:=zJ.grown zE (by omega) (by intro j hj;cases hj;omega);have zQ:=zE.size;by_cases hlt:k<ms.length
  ·obtain⟨b,off,ha,hb,hc⟩:=(zD.below zC).at hlt
   subst ha;have HG:Hid (ms[k]?=some ms[k]):=Uu hlt;have c0:=hc k _ HG.o;clear hc zD;generalize ms[k]=x at *
   obtain⟨n,hn,zN,zG,_⟩:=HF.o.get (keyL x);have zH:(ms.take k).length=k:=by simp;omega
   rw[zH] at zG;have zO:IntKind.i64.wrap (n+1)=n+1:=Ht (by omega) (by omega);go_wp2;go_region_with (first
    |(go_at_call 58;refine(Fz x _).mono ?_;rintro e w2 ⟨rfl,zF⟩;have zA:Below wr.heap.size wr w2:=(Below.refl _ _).drew.trans (zF.mono (by simp));obtain⟨st,w3,w4,he,hl1,hl3,hs4,hm4,hg3,hg4⟩:=(HM.o.keep zA (by omega)).bump keyed underlying198 (by unfold maxLen;omega) QR (Dt x) (.int .i64 (n+1));rw[hn] at he hl1 hl3;unfold goInt at he hs4))
   all_goals
    have zL:W0.grownBy w4 (some (w.heap.size+1)):=Aw zE (Aw (Aj _ zA) hg4);have HN:Hid (MK (ms.take (k+1)) (upd f (keyL x) (.int .i64 (n+1))) (if (f (keyL x)).isSome then c else c+1)):=by
     have:=HF.o.snoc x zN (by rw[zH];exact zG);rw[List.take_add_one,HG.o];exact this
    have zI:Hid _:=hm4;clear hm4 he hl1 hl3 hs4 hg3 hg4 zA zF;go_wp2;exact⟨⟨k+1,_,_,by omega,by go_num,zI,HN,zL⟩,by simp[intOf];omega⟩
  ·rw[Uw (by omega)] at HF
   obtain rfl:k=ms.length:=by omega
   go_wp2;go_ret;exact⟨_,c,f,rfl,by omega,HM.o,HF.o,zC⟩
end
section
attribute [local go_sem↓] Go.wp_at_zero Go.wp_at_succ
theorem Oy (s:ByteArray) (wd:Int) (b:Nat) (w:World) (hc:w.cell? ⟨b,0,none⟩=some (.int .i64 wd)):
 Calls prog 106 #[.string s,.pointer (some ⟨b,0,none⟩)] w fun e w'=>e=.returned (.bool (!decide ((s.size:Int)=wd)))/\w'=w:=by
 go_enter func106,ntmps106;by_cases h:(s.size:Int)=wd
 ·have h':((s.size:Int) !=wd)=false:=by simp[h]
  go_wp2;go_ret;exact⟨by simp[h],rfl⟩
 ·have h':((s.size:Int) !=wd)=true:=by simp[h]
  go_wp2;go_ret;exact⟨by simp[h],rfl⟩
theorem Ky (a:Option Addr) (cap b:Nat) (ss:List ByteArray) (wd:Int) (w:World) (B:Nat) (zB:Ad w B a ss) (hl:ss.length<=1048576) (hc:w.cell? ⟨b,0,none⟩=some (.int .i64 wd)):
 Calls prog 141 #[.slice a ss.length cap,.func (.func 106) #[] #[.pointer (some ⟨b,0,none⟩)]] w fun e w'=>∃r:Int,e=.returned (.int .i64 r)/\(0<=r↔∃s∈ss,¬(s.size:Int)=wd)/\w'=w:=by
 go_enter func141,ntmps141;go_wp2
 go_loop [8] (fun i=>∃k:Nat,k<=ss.length/\i=.int .i64 k/\Hid (∀j x,j<k->ss[j]?=some x->(x.size:Int)=wd)) (fun i=>ss.length -(intOf i).toNat)
 case atStart=>exact⟨0,Nat.zero_le _,rfl,fun j x h=>by omega⟩
 case round=>
  obtain⟨k,hk,rfl,zA⟩:=hrel;by_cases hlt:k<ss.length
  ·obtain⟨b',off,ha,hb,zC⟩:=zB.at hlt
   subst ha;have hg:Hid _:=Uu hlt;have c0:=zC k _ hg;clear zC zB;generalize ss[k]=x at *
   go_wp2_with fail;refine(Oy x wd b w hc).mono ?_;rintro e w1 ⟨rfl,rfl⟩;by_cases h:(x.size:Int)=wd
   ·have HA:Hid (∀j y,j<k+1->ss[j]?=some y->(y.size:Int)=wd):=by
     intro j y hj hy;rcases Nat.lt_or_ge j k with h'|h'
     ·exact zA j y h' hy
     ·obtain rfl:j=k:=by omega
      rw[hg.o] at hy;cases hy;exact h
    have hd:decide ((x.size:Int)=wd)=true:=by simp[h]
    rw[hd];go_wp2;exact⟨⟨k+1,by omega,by go_num,HA⟩,by simp[intOf];omega⟩
   ·have hd:decide ((x.size:Int)=wd)=false:=by simp[h]
    rw[hd];go_wp2;go_ret;exact⟨_,rfl,⟨fun _=>⟨x,Ux hg.o,h⟩,fun _=>by omega⟩,rfl⟩
  ·go_wp2
   go_ret;refine⟨_,rfl,⟨fun h=>by omega,fun⟨s,hs,h⟩=> ?_⟩,rfl⟩;obtain⟨j,hj,rfl⟩:=List.getElem_of_mem hs;exact absurd (zA j _ (by omega) (Uu hj)) h
open Classical in
theorem EZ (a:Option Addr) (cap b:Nat) (ss:List ByteArray) (wd:Int) (w:World) (B:Nat) (zA:Ad w B a ss) (hl:ss.length<=1048576) (hc:w.cell? ⟨b,0,none⟩=some (.int .i64 wd)):
 Calls prog 107 #[.slice a ss.length cap,.func (.func 106) #[] #[.pointer (some ⟨b,0,none⟩)]] w fun e w'=>e=.returned (.bool (decide (∃s∈ss,¬(s.size:Int)=wd)))/\w'=w:=by
 go_enter func107,ntmps107;go_wp2_with fail;refine(Ky a cap b ss wd w B zA hl hc).mono ?_;rintro e w1 ⟨r,rfl,hr,rfl⟩;by_cases h:0<=r
 ·have hd:decide ((0:Int)<=r)=true:=by simpa using h
  go_wp2;go_ret;exact⟨by simp[hr.1 h],rfl⟩
 ·have hd:decide ((0:Int)<=r)=false:=by simpa using h
  have zB:¬∃s∈ss,¬(s.size:Int)=wd:=fun e=>h (hr.2 e);go_wp2;go_ret;exact⟨by rw[decide_eq_false zB];rfl,rfl⟩
structure LA (wd:Int) (qs ms:List ByteArray):Prop where
 nq:qs.length<=23200
 nm:ms.length<=600
 q:∀s∈qs,(s.size:Int)=wd
 m:∀s∈ms,(s.size:Int)=wd
 nd:ms.Nodup
theorem Nj {wd:Int} {ms:List ByteArray} (h8:wd<=8) (hm:∀s∈ms,(s.size:Int)=wd):(ms.map keyL).Nodup↔ms.Nodup:=by
 induction ms with
 |nil=>simp
 |cons x r ih=>
  have ih:=ih (fun s hs=>hm s (by simp[hs]));simp only[List.map_cons,List.nodup_cons,ih];have hx:=hm x (by simp);constructor
  ·rintro⟨h1,h2⟩
   exact⟨fun h=>h1 (List.mem_map.2 ⟨x,h,rfl⟩),h2⟩
  ·rintro⟨h1,h2⟩
   refine⟨fun h=> ?_,h2⟩;obtain⟨y,hy,e⟩:=List.mem_map.1 h;have zA:=hm y (by simp[hy]);have:y=x:=GS e (by omega) (by omega);subst this;exact h1 hy
theorem Kz (ph top at_ ro wd:Int) (a b:Option Addr) (ac bc:Nat) (qs ms:List ByteArray) (w:World) (hq:Ad w w.heap.size a qs) (hm:Ad w w.heap.size b ms) (hf:FT qs ms) (h8:wd<=8):
 Calls prog 75 #[.agg #[.int .i64 ph,.slice a qs.length ac,.slice b ms.length bc,.int .i64 top,.int .i64 at_,.int .i64 ro],.int .i64 wd] w fun e w'=>Ao (LA wd qs ms) w w' e:=by
 have zJ:=hf.q;have zI:=hf.m;have hb:Below w.heap.size w ((w.alloc (.cells #[.int .i64 ph,.slice a qs.length ac,.slice b ms.length bc,.int .i64 top,.int .i64 at_,.int .i64 ro] 34)).alloc (.cells #[.int .i64 wd] 3)):=(Ur).alloc (by simp) _;go_enter func75,ntmps75;by_cases h1:qs.length<=23200
 ·have d1:decide ((23200:Int)<(qs.length:Int))=false:=by simp;omega
  by_cases h2:ms.length<=600
  ·have d2:decide ((600:Int)<(ms.length:Int))=false:=by simp;omega
   go_wp2_with fail;refine(EZ a ac _ qs wd _ w.heap.size (hq.below hb) hf.q (by simp[go_sem])).mono ?_;rintro e w1 ⟨rfl,rfl⟩;by_cases h3:∃s∈qs,¬(s.size:Int)=wd
   ·rw[decide_eq_true h3]
    go_wp2;go_ret;exact Ao.no (fun h=>by obtain⟨s,hs,h'⟩:=h3;exact h' (h.q s hs)) hb
   ·rw[decide_eq_false h3]
    go_wp2_with fail;refine(EZ b bc _ ms wd _ w.heap.size (hm.below hb) hf.m (by simp[go_sem])).mono ?_;rintro e w2 ⟨rfl,rfl⟩;by_cases h4:∃s∈ms,¬(s.size:Int)=wd
    ·rw[decide_eq_true h4]
     go_wp2;go_ret;exact Ao.no (fun h=>by obtain⟨s,hs,h'⟩:=h4;exact h' (h.m s hs)) hb
    ·rw[decide_eq_false h4]
     have zG:∀s∈qs,(s.size:Int)=wd:=fun s hs=>Classical.byContradiction fun h=>h3 ⟨s,hs,h⟩;have zE:∀s∈ms,(s.size:Int)=wd:=fun s hs=>Classical.byContradiction fun h=>h4 ⟨s,hs,h⟩;have HA:Hid _:=And.intro zG zE;clear zG zE h3 h4;go_wp2_with fail
     obtain⟨W,hW⟩:∃W,W=((w.alloc (.cells #[.int .i64 ph,.slice a qs.length ac,.slice b ms.length bc,.int .i64 top,.int .i64 at_,.int .i64 ro] 34)).alloc (.cells #[.int .i64 wd] 3)):=⟨_,rfl⟩;have zC:Bw W w.heap.size ph (.slice a qs.length ac) (.slice b ms.length bc) top at_ ro:=by
      rw[hW];exact(Bw.new w ph top at_ ro _ _ 34).below (Ur)
     rw[←hW] at hb ⊢;have HX:Hid _:=zC;have zH:Hid _:=hm.below' hb;obtain⟨x0,x1,x2,x3,x4,x5,x6⟩:=zC;clear hW;go_region_with (first
      |(go_at_call 108;refine(Mn ph top at_ ro a b qs.length ac bc ms W.drew zH.o (by omega)).mono ?_;rintro e w2 ⟨mb,cc,f,rfl,zK,zD,zF,zA⟩;have zB:=fun ty=>zD.len underlying198 ty;have y2:=(zA.cell (p:=⟨w.heap.size,2,none⟩) x6).trans x2))
     all_goals
      have HB:Hid (Uq w w2):=(hb.drew.trans (zA.mono hb.size));have HK:Hid _:=zF;clear zB zD zF zA;go_wp2;go_ret;refine⟨_,rfl,?_,HB.o⟩;have h6:=HK.o.all;rw[Nj h8 HA.o.2] at h6;have h7:(cc:Int)=ms.length↔ms.Nodup:=by rw[←h6];omega
      simp only[beq_iff_eq,h7];exact⟨fun h=>⟨h1,h2,HA.o.1,HA.o.2,h⟩,fun h=>h.nd⟩
  ·have d2:decide ((600:Int)<(ms.length:Int))=true:=by simp;omega
   go_wp2;go_ret;exact Ao.no (fun h=>h2 h.nm) hb
 ·have d1:decide ((23200:Int)<(qs.length:Int))=true:=by simp;omega
  go_wp2;go_ret;exact Ao.no (fun h=>h1 h.nq) hb
end
theorem Oz (n:Int) (w:World):
 Calls prog 74 #[.int .i64 n] w fun e w'=>e=.returned (.bool (decide (0<=n/\n<=1000000000)))/\w'=w:=by
 by_cases h1:0<=n
 ·by_cases h2:n<=1000000000
  ·go_enter func74,ntmps74
   go_wp2;go_ret;exact⟨AH (by simp[h1,h2]),rfl⟩
  ·have zB:decide (n<=1000000000)=false:=by simpa using h2
   go_enter func74,ntmps74;go_wp2;go_ret;exact⟨rfl,rfl⟩
 ·have zA:decide (0<=n)=false:=by simpa using h1
  go_enter func74,ntmps74;go_wp2;go_ret;exact⟨rfl,rfl⟩
section
attribute [local go_sem↓] Go.wp_at_zero Go.wp_at_succ
def Et (births ph top at_:Int) (qs ms:List ByteArray):Prop:=
 (ph=0/\qs=[]/\ms=[]/\top=0/\at_=0)∨(ph=1/\0<=top/\top<=births/\at_=top+1)∨(ph=2/\0<=top/\top<=births/\1<=at_/\at_<=top+1)
structure BJ (wd births ph top at_ ro:Int) (qs ms:List ByteArray):Prop where
 ro1:0<=ro
 ro2:ro<=1000000000
 sums:LA wd qs ms
 ph:Et births ph top at_ qs ms
theorem Js (ph top at_ ro wd births:Int) (a b:Option Addr) (ac bc:Nat) (qs ms:List ByteArray) (w:World) (hq:Ad w w.heap.size a qs) (hm:Ad w w.heap.size b ms) (hf:FT qs ms) (h8:wd<=8) (zJ:births<=1000000000):
 Calls prog 49 #[.agg #[.int .i64 ph,.slice a qs.length ac,.slice b ms.length bc,.int .i64 top,.int .i64 at_,.int .i64 ro],.int .i64 wd,.int .i64 births] w fun e w'=>Ao (BJ wd births ph top at_ ro qs ms) w w' e:=by
 have zL:=hf.q;have zK:=hf.m;have hb:Below w.heap.size w (w.alloc (.cells #[.int .i64 ph,.slice a qs.length ac,.slice b ms.length bc,.int .i64 top,.int .i64 at_,.int .i64 ro] 34)):=Ur;have hx:=Bw.new w ph top at_ ro (.slice a qs.length ac) (.slice b ms.length bc) 34;go_enter func49,ntmps49;go_wp2_with fail;refine(Oz ro _).mono ?_;rintro e w1 ⟨rfl,rfl⟩;by_cases h1:0<=ro/\ro<=1000000000
 ·rw[decide_eq_true h1]
  go_wp2_with fail;refine(Kz ph top at_ ro wd a b ac bc qs ms _ (hq.below' hb) (hm.below' hb) hf h8).mono ?_;rintro e w2 ⟨b2,rfl,zE,zD⟩;have zA:=hb.trans (zD.mono (by simp));obtain⟨x0,x1,x2,x3,x4,x5,x6⟩:=hx.below zD;clear zD hx;cases b2 with
  |false=>
   go_wp2;go_ret;exact Ao.no (fun h=>by have:=zE.2 h.sums;cases this) zA
  |true=>
   have zB:=zE.1 rfl;have HS:Hid _:=zB;clear zE zB;by_cases p0:ph=0
   ·subst p0
    by_cases e1:qs.length=0
    ·by_cases e2:ms.length=0
     ·by_cases e3:top=0
      ·by_cases e4:at_=0
       ·go_wp2
        go_ret;exact Ao.yes ⟨h1.1,h1.2,HS.o,.inl ⟨rfl,List.eq_nil_of_length_eq_zero e1,List.eq_nil_of_length_eq_zero e2,e3,e4⟩⟩ zA
       ·have zH:(at_==0)=false:=by simpa using e4
        go_wp2;go_ret;exact Ao.no (P:=BJ wd births 0 top at_ ro qs ms) (fun h=>by have:=h.ph;unfold Et at this;simp at this;have h9:=this.2.2.2;omega) zA
      ·have zC:(top==0)=false:=by simpa using e3
       go_wp2;go_ret;exact Ao.no (fun h=>by have:=h.ph;unfold Et at this;simp at this;have h9:=this.2.2.1;omega) zA
     ·have zG:((ms.length:Int)==0)=false:=beq_eq_false_iff_ne.2 (by omega)
      go_wp2;go_ret;exact Ao.no (fun h=>by have:=h.ph;unfold Et at this;simp at this;exact e2 (by rw[this.2.1];rfl)) zA
    ·have zF:((qs.length:Int)==0)=false:=beq_eq_false_iff_ne.2 (by omega)
     go_wp2;go_ret;exact Ao.no (fun h=>by have:=h.ph;unfold Et at this;simp at this;exact e1 (by rw[this.1];rfl)) zA
   ·have zM:(ph==0)=false:=by simpa using p0
    by_cases p1:ph=1
    ·subst p1
     by_cases e1:0<=top
     ·by_cases e2:top<=births
      ·have zI:IntKind.i64.wrap (top+1)=top+1:=Ht (by omega) (by omega)
       by_cases e3:at_=top+1
       ·have zC:(at_==top+1)=true:=by simpa using e3
        go_wp2;go_ret;exact Ao.yes (P:=BJ wd births 1 top at_ ro qs ms) ⟨h1.1,h1.2,HS.o,.inr (.inl ⟨rfl,e1,e2,e3⟩)⟩ zA
       ·have zC:(at_==top+1)=false:=by simpa using e3
        go_wp2;go_ret;exact Ao.no (P:=BJ wd births 1 top at_ ro qs ms) (fun h=>by have:=h.ph;unfold Et at this;simp at this;have h9:=this.2.2;omega) zA
      ·have zG:decide (top<=births)=false:=by simpa using e2
       go_wp2;go_ret;exact Ao.no (P:=BJ wd births 1 top at_ ro qs ms) (fun h=>by have:=h.ph;unfold Et at this;simp at this;have h9:=this.2.1;omega) zA
     ·have zF:decide (0<=top)=false:=by simpa using e1
      go_wp2;go_ret;exact Ao.no (P:=BJ wd births 1 top at_ ro qs ms) (fun h=>by have:=h.ph;unfold Et at this;simp at this;have h9:=this.1;omega) zA
    ·have zN:(ph==1)=false:=by simpa using p1
     by_cases p2:ph=2
     ·subst p2
      by_cases e1:0<=top
      ·by_cases e2:top<=births
       ·have zI:IntKind.i64.wrap (top+1)=top+1:=Ht (by omega) (by omega)
        by_cases e3:1<=at_
        ·by_cases e4:at_<=top+1
         ·have zH:decide (at_<=top+1)=true:=by simpa using e4
          go_wp2;go_ret;exact Ao.yes (P:=BJ wd births 2 top at_ ro qs ms) ⟨h1.1,h1.2,HS.o,.inr (.inr ⟨rfl,e1,e2,e3,e4⟩)⟩ zA
         ·have zH:decide (at_<=top+1)=false:=by simpa using e4
          go_wp2;go_ret;exact Ao.no (P:=BJ wd births 2 top at_ ro qs ms) (fun h=>by have:=h.ph;unfold Et at this;simp at this;have h9:=this.2.2.2;omega) zA
        ·have zC:decide (1<=at_)=false:=by simpa using e3
         go_wp2;go_ret;exact Ao.no (P:=BJ wd births 2 top at_ ro qs ms) (fun h=>by have:=h.ph;unfold Et at this;simp at this;have h9:=this.2.2.1;omega) zA
       ·have zG:decide (top<=births)=false:=by simpa using e2
        go_wp2;go_ret;exact Ao.no (P:=BJ wd births 2 top at_ ro qs ms) (fun h=>by have:=h.ph;unfold Et at this;simp at this;have h9:=this.2.1;omega) zA
      ·have zF:decide (0<=top)=false:=by simpa using e1
       go_wp2;go_ret;exact Ao.no (P:=BJ wd births 2 top at_ ro qs ms) (fun h=>by have:=h.ph;unfold Et at this;simp at this;have h9:=this.1;omega) zA
     ·have zO:(ph==2)=false:=by simpa using p2
      go_wp2;go_ret;exact Ao.no (P:=BJ wd births ph top at_ ro qs ms) (fun h=>by rcases h.ph with h|h|h;exact p0 h.1;exact p1 h.1;exact p2 h.1) zA
 ·rw[decide_eq_false h1]
  go_wp2;go_ret;exact Ao.no (fun h=>h1 ⟨h.ro1,h.ro2⟩) hb
end
def Cb (ss tt:List ByteArray):Bool:=decide (ss.length+tt.length<=4000)&&(ss++tt).all (fun s=>decide (s.size<=5000))
def GK (ss:List ByteArray):Bool:=ss.all (fun s=>decide (s.size<=5000))
theorem OA (ss:List ByteArray) (k:Nat) (s:ByteArray) (h:ss[k]?=some s):GK (ss.take (k+1))=(GK (ss.take k)&&decide (s.size<=5000)):=by
 obtain⟨zA,rfl⟩:=Ut h;unfold GK;rw[Uv zA,List.all_append,List.all_cons,List.all_nil,Bool.and_true]
theorem Nk (ss:List ByteArray) (k:Nat) (s:ByteArray) (h:ss[k]?=some s) (hs:5000<s.size):GK ss=false:=by
 simp only[GK,List.all_eq_false];exact⟨s,Ux h,by simp;omega⟩
structure Vd where
 wd:Int
 lim:Int
 ss:List ByteArray
 tt:List ByteArray
 sw:Int
 now:Int
 given:Int
 births:Int
 ks:List Kd
 ps:List Pd
 ls:List Ld
 ph:Int
 qs:List ByteArray
 ms:List ByteArray
 top:Int
 at_:Int
 ro:Int
structure Va where
 sa:Option Addr
 sc:Nat
 ta:Option Addr
 tc:Nat
 ka:Option Addr
 kc:Nat
 pa:Option Addr
 pc:Nat
 la:Option Addr
 lc:Nat
 qa:Option Addr
 qc:Nat
 ma:Option Addr
 mc:Nat
structure BV (w:World) (B:Nat) (a:Va) (v:Vd):Prop where
 s:Ad w B a.sa v.ss
 t:Ad w B a.ta v.tt
 st:BC w B a.ka a.pa a.la v.ks v.ps v.ls
 q:Ad w B a.qa v.qs
 m:Ad w B a.ma v.ms
theorem BV.keep {w w':World} {B:Nat} {a:Va} {v:Vd} (h:BV w B a v) (hb:Below B w w'):BV w' B a v:=
 ⟨h.s.below hb,h.t.below hb,h.st.keep hb,h.q.below hb,h.m.below hb⟩
theorem BV.mono {w:World} {B B':Nat} {a:Va} {v:Vd} (h:BV w B a v) (hb:B<=B'):BV w B' a v:=
 ⟨h.s.mono hb,h.t.mono hb,h.st.mono hb,h.q.mono hb,h.m.mono hb⟩
theorem BV.below' {w w':World} {a:Va} {v:Vd} (h:BV w w.heap.size a v) (hb:Uq w w'):BV w' w'.heap.size a v:=(h.keep hb).mono hb.size
structure TR (a:Va) (v:Vd):Prop where
 s:a.sa=none->v.ss.length=0/\a.sc=0
 t:a.ta=none->v.tt.length=0/\a.tc=0
 m:v.ms.length<=a.mc
structure DM (v:Vd):Prop where
 s:v.ss.length<=1048576
 t:v.tt.length<=1048576
 ss:∀s∈v.ss,s.size<=1048576
 tt:∀s∈v.tt,s.size<=1048576
 st:Tg v.ks v.ps v.ls
 r:FT v.qs v.ms
 rn:DF v.ks<=1048576
structure Cg (v:Vd) (r:Rs):Prop where
 wd:1<=v.wd/\v.wd<=8
 lim:0<=v.lim/\v.lim<=1000000
 log:Cb v.ss v.tt=true
 run:Cn v.wd r0 (v.ss++v.tt) r
 same:(v.wd=v.sw/\r.now=v.now/\r.given=v.given/\r.births=v.births)/\r.ks=v.ks/\r.ps=v.ps/\r.ls=v.ls
 round:BJ v.wd v.births v.ph v.top v.at_ v.ro v.qs v.ms
def Fo (v:Vd):Prop:=∃r,Cg v r
theorem FU {ss tt:List ByteArray} (h:Cb ss tt=true):(ss++tt).length<=4000:=by
 unfold Cb at h;simp at h;rw[List.length_append];exact h.1
theorem OB {w:World} {b:Nat} {a0 a1 a2 a3 a4 a5 a6 a7 a8 a9 zA zB zC zD zE zF zG:Value} (h:Aa w b [a0,a1,a2,a3,a4,a5,a6,a7,a8,a9,zA,zB,zC,zD,zE,zF,zG]):w.cell? ⟨b,0,none⟩=some a0/\w.cell? ⟨b,1,none⟩=some a1/\w.cell? ⟨b,2,none⟩=some a2/\w.cell? ⟨b,3,none⟩=some a3/\w.cell? ⟨b,4,none⟩=some a4/\w.cell? ⟨b,5,none⟩=some a5/\w.cell? ⟨b,6,none⟩=some a6/\w.cell? ⟨b,7,none⟩=some a7/\w.cell? ⟨b,8,none⟩=some a8/\w.cell? ⟨b,9,none⟩=some a9/\w.cell? ⟨b,10,none⟩=some zA/\w.cell? ⟨b,11,none⟩=some zB/\w.cell? ⟨b,12,none⟩=some zC/\w.cell? ⟨b,13,none⟩=some zD/\w.cell? ⟨b,14,none⟩=some zE/\w.cell? ⟨b,15,none⟩=some zF/\w.cell? ⟨b,16,none⟩=some zG:=
 ⟨(h 0 _ rfl).1,(h 1 _ rfl).1,(h 2 _ rfl).1,(h 3 _ rfl).1,(h 4 _ rfl).1,(h 5 _ rfl).1,(h 6 _ rfl).1,(h 7 _ rfl).1,(h 8 _ rfl).1,(h 9 _ rfl).1,(h 10 _ rfl).1,(h 11 _ rfl).1,(h 12 _ rfl).1,(h 13 _ rfl).1,(h 14 _ rfl).1,(h 15 _ rfl).1,(h 16 _ rfl).1⟩
structure TT (v:Vd):Prop where
 s:v.ss.length<=maxLen
 ss:∀s∈v.ss,s.size<=maxLen
 t:v.tt.length<=maxLen
 tt:∀s∈v.tt,s.size<=maxLen
 k:Td v.ks
 p:Te v.ps
 l:Tf v.ls
 q:v.qs.length<=maxLen
 qs:∀s∈v.qs,s.size<=maxLen
 m:v.ms.length<=maxLen
 ms:∀s∈v.ms,s.size<=maxLen
theorem CW {V:List Nat} {w w':World} {lo:Nat} {e:TypeId} {size:Nat} {v:Value} {n:Nat} {xs:List Value} (h:w.ownsRow lo e size v n xs) (ht:Tn V w w') (hV:∀b∈V,b<lo):w'.ownsRow lo e size v n xs:=
 AD h (fun q hq=>ht.block q (Af h hq).2 (fun hin=>by have h1:=hV q hin;have h2:=(Af h hq).1;omega))
theorem Aa.there {w:World} {B:Nat} {l:List Value} (h:Aa w B l):w.there B 0 l.length:=fun j hj=>by
 obtain⟨h1,h2⟩:=h j _ (Uu hj);rw[Nat.zero_add];exact⟨by rw[h1];rfl,h2⟩
theorem Aa.range {w:World} {B:Nat} {l:List Value} (h:Aa w B l):w.rangeAt B 0 l:=fun j v hv=>by
 rw[Nat.zero_add];exact(h j v hv).1
theorem AB (B:Nat):∀(vs:List Value) (o:Nat) (w:World),Tn [B] w (w.setCells B o vs)
 |[],_,w=>Tn.of (Below.refl _ _)
 |v::r,o,w=>(Tn.set w B o v (by simp)).trans (AB B r (o+1) (w.setCell ⟨B,o,none⟩ v))
theorem Aa.setAll {w:World} {B:Nat} {l:List Value} (h:Aa w B l) (vs:List Value) (hl:vs.length=l.length):Aa (w.setCells B 0 vs) B vs:=fun j v hj=>by
 have zA:=(Ut hj).1;have h1:=World.rangeAt_setCells_same w B 0 vs (hl▸h.there) j v hj;rw[Nat.zero_add] at h1;refine⟨h1,?_⟩;rw[World.frozen?_setCells];exact(h j _ (Uu (by omega))).2
theorem Co {P:Program} {fn:Func} {p:Tmp} {ty:TypeId} (h:fn.results= #[.cell p ty]) (tmps:Array Value) (w:World) (b:Nat) (cs:List Value) (d:TypeDesc)
 (hp:tmps.getD p undef=.pointer (some ⟨b,0,none⟩)) (hc:w.rangeAt b 0 cs) (hu:P.underlying ty=some d) (hd:d.isRow=true) (hi:(P.info? ty).map (·.size)=some cs.length):
 (results fn tmps).run P w=.ok (.agg cs.toArray) w:=by
 have zA:tmps[p]?.getD undef=.pointer (some ⟨b,0,none⟩):=by simpa using hp
 simp[results,h,zA,asAddr,run_loadVar_mid w b 0 ty cs d hc hu hd hi]
theorem Dm {P:Program} {fn:Func} {p u:Tmp} {ty:TypeId} {x:Value} (h:fn.results= #[.cell p ty,.tmp u]) (tmps:Array Value) (w:World) (b:Nat) (cs:List Value) (d:TypeDesc)
 (hp:tmps.getD p undef=.pointer (some ⟨b,0,none⟩)) (hx:tmps.getD u undef=x) (hc:w.rangeAt b 0 cs) (hu:P.underlying ty=some d) (hd:d.isRow=true) (hi:(P.info? ty).map (·.size)=some cs.length):
 (results fn tmps).run P w=.ok (.tuple #[.agg cs.toArray,x]) w:=by
 rw[results_cell_tmp h,hp,hx];simp[asAddr,run_loadVar_mid w b 0 ty cs d hc hu hd hi]
def TU (w:World) (lo:Nat) (a:Va) (v:Vd):Prop:=
 ∃(g k g3 q3 r3 g5 k5 lo1 lo2:Nat) (w2:World),a=⟨some ⟨g,0,none⟩,v.ss.length,some ⟨k,0,none⟩,v.tt.length,some ⟨g3,0,none⟩,v.ks.length,some ⟨q3,0,none⟩,v.ps.length,some ⟨r3,0,none⟩,v.ls.length,some ⟨g5,0,none⟩,v.qs.length,some ⟨k5,0,none⟩,v.ms.length⟩/\
  g<k/\k<lo1/\lo<=lo1/\lo1<=lo2/\lo2<=w.heap.size/\g5<k5/\
  w.ownsRow lo 9 1 (.slice (some ⟨g,0,none⟩) v.ss.length v.ss.length) v.ss.length (v.ss.map Value.string)/\w.ownsRow lo 9 1 (.slice (some ⟨k,0,none⟩) v.tt.length v.tt.length) v.tt.length (v.tt.map Value.string)/\
  Tl w2 lo1 g3 q3 r3 v.ks v.ps v.ls/\w2.heap.size<=lo2/\(∀b,lo1<=b->b<w2.heap.size->w.heap[b]?=w2.heap[b]?)/\
  w.ownsRow lo2 9 1 (.slice (some ⟨g5,0,none⟩) v.qs.length v.qs.length) v.qs.length (v.qs.map Value.string)/\w.ownsRow lo2 9 1 (.slice (some ⟨k5,0,none⟩) v.ms.length v.ms.length) v.ms.length (v.ms.map Value.string)
structure Ug (n kmax feq fmark:Nat) (R:Nat->World->List Value->Prop) (O:Nat->Nat->World->List Value->Prop) (M:Nat->Nat->World->List Value->Nat->Prop):Prop where
 eq:∀(X:World) (cs ds:List Value),R X.heap.size X cs->R X.heap.size X ds->Calls prog feq #[.agg cs.toArray,.agg ds.toArray] X fun e X'=>e=.returned (.bool true)/\Uq X X'
 mark:∀(lo N:Nat) (X:World) (cs:List Value) (k:Nat),O lo N X cs->1<=k->k<=kmax->Calls prog fmark #[.agg cs.toArray,.int .i64 k] X fun e X'=>(∃K:Nat,e=.returned (.int .i64 K)/\1<=K/\K<=90000000/\M lo N X' cs K)/\Below lo X X'/\∀q,N<=q->q<X.heap.size->X'.heap[q]?=X.heap[q]?
 keepR:∀(L:Nat) (X X':World) (cs:List Value),R L X cs->Below L X X'->R L X' cs
 monoR:∀(L L':Nat) (X:World) (cs:List Value),R L X cs->L<=L'->R L' X cs
 keepO:∀(lo N:Nat) (X X':World) (cs:List Value),O lo N X cs->X.heap.size<=X'.heap.size->(∀q,lo<=q->q<N->X'.heap[q]?=X.heap[q]?)->O lo N X' cs
 keepM:∀(lo N:Nat) (X X':World) (cs:List Value) (K:Nat),M lo N X cs K->X.heap.size<=X'.heap.size->(∀q,lo<=q->q<N->X'.heap[q]?=X.heap[q]?)->M lo N X' cs K
 ofO:∀(lo N:Nat) (X:World) (cs:List Value),O lo N X cs->N<=X.heap.size/\R X.heap.size X cs
 lenR:∀(L:Nat) (X:World) (cs:List Value),R L X cs->cs.length=n/\∀u∈cs,u.oneCell'=true
structure L1 (RA:Nat->World->List Value->Prop) (w X:World) (A sc:List Value) (pS L:Nat):Prop where
 bel:Below w.heap.size w X
 bA:Aa X w.heap.size A
 bS:Aa X pS sc
 rS:RA L X sc
 l0:w.heap.size<L
 l1:pS<L
 le:L<=X.heap.size
structure L2 (OX:Nat->Nat->World->List Value->Prop) (X:World) (xc:List Value) (L pX N:Nat):Prop where
 bX:Aa X pX xc
 oX:OX L N X xc
 l1:N<=pX
 le:pX<X.heap.size
structure L3 (P:Nat->Nat->World->List Value->Prop) (X:World) (gc:List Value) (lo pG N:Nat):Prop where
 bG:Aa X pG gc
 oG:P lo N X gc
 l1:N<=pG
 le:pG<X.heap.size
theorem boxed {X:World} {cs z:List Value} {T:TypeId} (hl:cs.length=z.length):Aa ((X.alloc (.cells z.toArray T)).setCells X.heap.size 0 cs) X.heap.size cs/\Uq X ((X.alloc (.cells z.toArray T)).setCells X.heap.size 0 cs)/\((X.alloc (.cells z.toArray T)).setCells X.heap.size 0 cs).heap.size=X.heap.size+1:=by
 have h1:=Aa.new X z T;have ht:=AB X.heap.size cs 0 (X.alloc (.cells z.toArray T));refine⟨h1.setAll cs hl,(Ur).trans (ht.below (by simp) (by simp)),?_⟩;rw[Fg];simp
theorem CS {P:Program} {ops:Array Oper} {rest:List Oper} {op:Oper} {a:Act} {w:World} {Q:Exit->Act->World->Prop} (hw:Region.wanted op (yielded ops a.tmps)=true) (ty:TypeId) (x:Operand) (ho:op.op=.load ty x)
 (b o:Nat) (hx:a.eval x=.pointer (some ⟨b,o,none⟩)) (cs:List Value) (d:TypeDesc) (hc:w.rangeAt b o cs)
 (hu:P.underlying ty=some d) (hd:d.isRow=true) (hi:(P.info? ty).map (·.size)=some cs.length)
 (h:wpList P ops Q rest (a.put op.dst (.agg cs.toArray)) w):wpList P ops Q (op::rest) a w:=
 wpList_step fun _ hK=>by rw[if_pos hw];exact wp_load_mid ty x ho b o hx cs d hc hu hd hi (hK _ _ h)
def Ar (w:World) (base:Nat) (v:Value) (ss:List ByteArray):Prop:=
 (v=.slice none 0 0/\ss=[])∨∃g off cap,v=.slice (some ⟨g,off,none⟩) ss.length cap/\base<=g/\g<w.heap.size/\ss.length<=cap/\cap<=maxLen/\
   (∀j,j<cap->(w.cell? ⟨g,off+j,none⟩).isSome=true/\w.frozen? ⟨g,off+j,none⟩=false)/\
   ∀i s,ss[i]?=some s->w.cell? ⟨g,off+i,none⟩=some (.string s)
theorem Ar.nil (w:World) (base:Nat):Ar w base (.slice none 0 0) []:=.inl ⟨rfl,rfl⟩
theorem Ar.own {w:World} {base:Nat} {v:Value} {ss:List ByteArray} (h:w.ownsRow base 9 1 v ss.length (ss.map Value.string)):Ar w base v ss:=by
 rcases h.2 with⟨rfl,hn⟩|⟨g,cap,zB,rfl,hb,hg,hc,hm,hs,ht⟩
 ·exact .inl ⟨rfl,List.eq_nil_of_length_eq_zero hn⟩
 ·have hl:=(Array.getElem?_eq_some_iff.1 hg).1
  have zA:∀j,w.cell? ⟨g,0+j,none⟩=zB[j]?:=fun j=>by
   rw[Nat.zero_add];simp[World.cell?,hg]
  refine .inr ⟨g,0,cap,rfl,hb,hl,hc,hm,fun j hj=>⟨?_,?_⟩,fun i s hs=> ?_⟩
  ·rw[zA,Array.getElem?_eq_getElem (by omega)]
   rfl
  ·simp[World.frozen?,hg]
  ·have hi:=(Ut hs).1
   rw[zA];have h1:(zB.toList.take (ss.length *1))[i]?=some (.string s):=by rw[ht];simp[hs]
   rw[List.getElem?_take_of_lt (by omega)] at h1;simpa using h1
theorem Ar.row {w:World} {base:Nat} {v:Value} {ss:List ByteArray} (h:Ar w base v ss):∃a cap,v=.slice a ss.length cap/\Ad w w.heap.size a ss:=by
 rcases h with⟨rfl,rfl⟩|⟨g,off,cap,rfl,h1,h2,_,_,_,hc⟩
 ·exact⟨none,0,rfl,.inl rfl⟩
 ·exact⟨_,cap,rfl,.inr ⟨g,off,rfl,h2,hc⟩⟩
theorem Ar.stays {w w':World} {base:Nat} {v:Value} {ss:List ByteArray} (h:Ar w base v ss) (hz:w.heap.size<=w'.heap.size) (hb:∀g,Ax v=some g->w'.heap[g]?=w.heap[g]?):Ar w' base v ss:=by
 rcases h with h|⟨g,off,cap,rfl,h1,hg,h2,h3,h4,hc⟩
 ·exact .inl h
 ·exact .inr ⟨g,off,cap,rfl,h1,by omega,h2,h3,fun j hj=>⟨by rw[World.cell?_of_block (hb g rfl)];exact(h4 j hj).1,by rw[World.frozen?_of_block (hb g rfl)];exact(h4 j hj).2⟩,fun i s hs=>(World.cell?_of_block (hb g rfl)).trans (hc i s hs)⟩
theorem Ar.blk {w:World} {base:Nat} {v:Value} {ss:List ByteArray} (h:Ar w base v ss) {g:Nat} (hg:Ax v=some g):base<=g/\g<w.heap.size:=by
 rcases h with⟨rfl,_⟩|⟨g',off,cap,rfl,h1,h2,_⟩
 ·cases hg
 ·cases hg;exact⟨h1,h2⟩
theorem Ar.below {w w':World} {base:Nat} {v:Value} {ss:List ByteArray} (h:Ar w base v ss) (hb:Uq w w'):Ar w' base v ss:=
 h.stays hb.size (fun g e=>hb.block g (h.blk e).2)
theorem Ar.turn {w w':World} {V:List Nat} {base:Nat} {v:Value} {ss:List ByteArray} (h:Ar w base v ss) (hb:Tn V w w') (hV:∀g,Ax v=some g->g∉V):Ar w' base v ss:=
 h.stays hb.size (fun g e=>hb.block g (h.blk e).2 (hV g e))
theorem Ar.mono {w:World} {base base':Nat} {v:Value} {ss:List ByteArray} (h:Ar w base v ss) (hb:base'<=base):Ar w base' v ss:=by
 rcases h with h|⟨g,off,cap,rfl,h1,rest⟩
 ·exact .inl h
 ·exact .inr ⟨g,off,cap,rfl,by omega,rest⟩
theorem Ar.fresh (w:World) (base:Nat) (ss:List ByteArray) (cap:Nat) (z:Array Value) (hb:base<=w.heap.size) (h1:ss.length<=cap) (h2:cap<=maxLen) (hz:z.size=cap -ss.length):
 Ar (w.drew.alloc (.cells ((ss.map Value.string).toArray++z) 9)) base (.slice (some ⟨w.heap.size,0,none⟩) ss.length cap) ss:=by
 have zA:∀j,(w.drew.alloc (.cells ((ss.map Value.string).toArray++z) 9)).cell? ⟨w.heap.size,0+j,none⟩=((ss.map Value.string).toArray++z)[j]?:=fun j=>by
  rw[Nat.zero_add];show(w.drew.alloc (.cells ((ss.map Value.string).toArray++z) 9)).cell? ⟨w.drew.heap.size,j,none⟩=_;rw[World.cell?_alloc_at _ _ _ _ rfl]
 refine .inr ⟨w.heap.size,0,cap,rfl,hb,by simp,h1,h2,fun j hj=>⟨?_,?_⟩,fun i s hs=> ?_⟩
 ·rw[zA,Array.getElem?_eq_getElem (by simp[hz];omega)]
  rfl
 ·simp[go_sem]
 ·have hi:=(Ut hs).1
  rw[zA,Array.getElem?_append_left (by simpa using hi)];simp[hs]
theorem Rt (w:World) (base:Nat) (v:Value) (ss:List ByteArray) (hq:Ar w base v ss) (p:Addr) (cp:Nat) (t:ByteArray) (hc:w.cell? p=some (.string t)) (hn:ss.length<=100000000) (zA:base<=w.heap.size) (ty:TypeId):
 ∃v' w',(Builtin.append_ #[25,25] ty #[v,.slice (some p) 1 cp]).run prog w=.ok v' w'/\Ar w' base v' (ss++[t])/\w.grownBy w' (Ax v)/\(Ax v'=Ax v∨Ax v'=some w.heap.size):=by
 obtain⟨i,hi,zL,zC,zM⟩:=info_parts Cv;have zB:Src prog i.size 25 (.slice (some p) 1 cp) 1 [.string t] w:=by
  rw[zC];exact Src.ofSlice w underlying25 p 1 cp [.string t] rfl (fun j u hu=>by
   match j,hu with
   |0,hu=>cases hu;rw[show p.add 0=p from by cases p;simp[Addr.add]];exact hc) (by simp[Value.oneCell'])
 have grow:∀(bs:Option Addr) (cap:Nat),cap<ss.length+1->(Builtin.firstCells i.size ss.length (.slice bs ss.length cap)).run prog w.drew=.ok (ss.map Value.string).toArray w.drew->
  ∃v' w',(Builtin.append_ #[25,25] ty #[.slice bs ss.length cap,.slice (some p) 1 cp]).run prog w=.ok v' w'/\Ar w' base v' (ss++[t])/\(∀row,w.grownBy w' row)/\Ax v'=some w.heap.size:=by
  intro bs cap zG zE;have hr:=run_append_grow_src w _ _ ty _ i _ underlying25 hi zL bs ss.length cap (ss.map Value.string) zE _ 1 [.string t] zB zG (by omega) (by
   have:=nextslicecap_le zG;rw[zM];omega)
  rw[show ss.map Value.string++[.string t]=(ss++[t]).map Value.string by simp] at hr;have zH:=grownCap_ge w (ss.length+1) cap 9;have zK:=grownCap_le_maxLen w (ss.length+1) cap 9 (by unfold maxLen;omega)
  have zF:=Ar.fresh w base (ss++[t]) (grownCap w (ss.length+1) cap 9) (Builtin.zeroCells (Value.string ⟨#[]⟩).cells (grownCap w (ss.length+1) cap 9 -(ss.length+1))) zA (by simpa using zH) zK (by rw[size_zeroCells,List.length_append];simp[Value.cells]);rw[List.length_append] at zF;exact⟨_,_,hr,zF,fun row=>⟨rfl,rfl,rfl,by simp,fun k hk _=>heap_alloc_old w.drew _ hk⟩,rfl⟩
 rcases hq with⟨rfl,rfl⟩|⟨g,off,cap,rfl,h1,hg,h2,h3,h4,hc⟩
 ·obtain⟨v',w',hr,h5,h6,h7⟩:=grow none 0 (by simp) (run_firstCells_none w.drew _ _ _ _)
  exact⟨v',w',hr,h5,h6 _,.inr h7⟩
 ·by_cases hroom:ss.length+1<=cap
  ·have zD:∀j,j<[Value.string t].length->(ss.length *1+j)<cap:=fun j hj=>by simp at hj;omega
   have hr:=run_append_room_src w _ _ ty _ i underlying25 hi g off ss.length cap _ 1 [.string t] zB hroom (fun j hj=>by rw[zC,Nat.add_assoc];exact(h4 _ (zD j hj)).1) (fun j hj=>by rw[zC,Nat.add_assoc];exact(h4 _ (zD j hj)).2);rw[zC] at hr
   refine⟨_,_,hr,.inr ⟨g,off,cap,by rw[List.length_append];rfl,h1,by rw[Fg];exact hg,by rw[List.length_append];exact hroom,h3,fun j hj=>⟨?_,?_⟩,fun k s hs=> ?_⟩,⟨World.os_setCells _ _ _ _,JK _ _ _ _,World.output_setCells _ _ _ _,by rw[Fg];exact Us,fun k hk hne=>World.heap_setCells_other _ _ _ _ hk (fun e=>hne (by rw[e];rfl))⟩,.inl rfl⟩
   ·exact He _ _ _ _ _ (h4 j hj).1
   ·rw[World.frozen?_setCells];exact(h4 j hj).2
   ·rcases Nat.lt_or_ge k ss.length with h'|h'
    ·rw[List.getElem?_append_left h'] at hs
     rw[World.cell?_setCells_out _ _ _ _ _ (fun _ _=> .inl (by simp;omega))];exact hc k s hs
    ·rw[List.getElem?_append_right h'] at hs
     have zJ:k=ss.length:=by
      have:=(Ut hs).1;simp at this;omega
     subst zJ;simp at hs;subst hs;have zI:=World.cell?_setCells_in g [.string t] (off+ss.length *1) w (fun j hj=>by rw[Nat.add_assoc];exact(h4 _ (zD j hj)).1) 0 (by simp);simpa using zI
  ·obtain⟨v',w',hr,h5,h6,h7⟩:=grow (some ⟨g,off,none⟩) cap (by omega) (run_firstCells_some w.drew _ _ _ _ _ _ (by rw[zC];simp) (by
    intro j u hu;obtain⟨s,hs,rfl⟩:∃s,ss[j]?=some s/\u=.string s:=by
     rw[List.getElem?_map] at hu;cases e:ss[j]? with
     |none=>rw[e] at hu;cases hu
     |some s=>rw[e] at hu;cases hu;exact⟨s,rfl,rfl⟩
    rw[Go.WideShapes.add_plain];exact hc j s hs))
   exact⟨v',w',hr,h5,h6 _,.inr h7⟩
def TV (w:World) (b:Nat) (u v:Value):Prop:=w.cell? ⟨b,0,none⟩=some u/\w.cell? ⟨b,1,none⟩=some v/\b<w.heap.size
def TL (w:World) (aa:Addr) (ks:List Kd):Prop:=∀(i:Nat) (k:Kd),ks[i]?=some k->∃ad rc,w.cell? ⟨aa.block,aa.off+i *4+3,none⟩=some (.slice (some ad) k.refs.length rc)
structure TM (w wr:World) (k tg tc:Nat) (rs:List Value) (wd now given births:Int) (A P L:Value) (ks:List Kd):Prop where
 o:Aa wr (w.heap.size+1+1) [.int .i64 wd,.int .i64 now,.int .i64 given,.int .i64 births,.slice (some ⟨tg,0,none⟩) k tc,P,L]
 res:Aa wr (w.heap.size+1) z7
 box:By wr w.heap.size wd now given births A P L
 things:wr.ownsRow (w.heap.size+3) 115 4 (.slice (some ⟨tg,0,none⟩) k tc) k (Ab kC ((ks.take k).zip rs))
 len:rs.length=k
 refs:∀(i:Nat) (x:Kd) (r:Value),(ks.take k)[i]?=some x->rs[i]?=some r->wr.ownsRow (w.heap.size+3) 9 1 r x.refs.length (x.refs.map Value.string)
 all:∀v∈rs,∃g n c,v=Value.slice (some ⟨g,0,none⟩) n c
 nd:(tg::rs.filterMap Value.ownBlock).Nodup
 bel:Below w.heap.size w wr
theorem Bk.turn {w w':World} {base:Nat} {T P L:Value} {rs:List Value} {ks:List Kd} {ps:List Pd} {ls:List Ld} (h:Bk w base T P L rs ks ps ls) {V:List Nat} (ht:Tn V w w') (hV:∀b∈V,b<base):Bk w' base T P L rs ks ps ls:=by
 have hs:∀{e:TypeId} {size:Nat} {v:Value} {n:Nat} {xs:List Value},w.ownsRow base e size v n xs->w'.ownsRow base e size v n xs:=fun ho=>AD ho (fun g hg=>ht.block g (Af ho hg).2 (fun e=>by have:=hV g e;have:=(Af ho hg).1;omega));exact⟨h.len,hs h.things,fun i k r hk hr=>hs (h.refs i k r hk hr),hs h.pins,hs h.leases,h.nd⟩
theorem Bk.mono {w:World} {base base':Nat} {T P L:Value} {rs:List Value} {ks:List Kd} {ps:List Pd} {ls:List Ld} (h:Bk w base T P L rs ks ps ls) (hb:base'<=base):Bk w base' T P L rs ks ps ls:=
 ⟨h.len,h.things.mono hb,fun i k r hk hr=>(h.refs i k r hk hr).mono hb,h.pins.mono hb,h.leases.mono hb,h.nd⟩
theorem Bk.lo {w:World} {base:Nat} {T P L:Value} {rs:List Value} {ks:List Kd} {ps:List Pd} {ls:List Ld} (h:Bk w base T P L rs ks ps ls):∀g∈BQ T P L rs,base<=g:=by
 intro g hg;unfold BQ at hg;simp only[List.mem_append,Option.mem_toList,List.mem_filterMap] at hg;rcases hg with hg|hg|hg|⟨r,hr,hg⟩
 ·exact(Af h.things hg).1
 ·exact(Af h.pins hg).1
 ·exact(Af h.leases hg).1
 ·obtain⟨i,hi⟩:=List.getElem?_of_mem hr
  have hl:=(Ut hi).1;rw[h.len] at hl;exact(Af (h.refs i _ r (Uu hl) hi) hg).1
theorem Bk.lts {w:World} {base:Nat} {T P L:Value} {rs:List Value} {ks:List Kd} {ps:List Pd} {ls:List Ld} (h:Bk w base T P L rs ks ps ls):∀g∈BQ T P L rs,g<w.heap.size:=by
 intro g hg;unfold BQ at hg;simp only[List.mem_append,Option.mem_toList,List.mem_filterMap] at hg;rcases hg with hg|hg|hg|⟨r,hr,hg⟩
 ·exact(Af h.things hg).2
 ·exact(Af h.pins hg).2
 ·exact(Af h.leases hg).2
 ·obtain⟨i,hi⟩:=List.getElem?_of_mem hr
  have hl:=(Ut hi).1;rw[h.len] at hl;exact(Af (h.refs i _ r (Uu hl) hi) hg).2
theorem Bk.apart {w w':World} {base:Nat} {T P L:Value} {rs:List Value} {ks:List Kd} {ps:List Pd} {ls:List Ld} (h:Bk w base T P L rs ks ps ls) {V:List Nat} (ht:Tn V w w') (hV:∀b∈V,b∉BQ T P L rs):Bk w' base T P L rs ks ps ls:=by
 have zA:∀g,g∈BQ T P L rs->g<w.heap.size->w'.heap[g]?=w.heap[g]?:=fun g hg hl=>ht.block g hl (fun e=>hV g e hg)
 refine⟨h.len,AD h.things (fun g hg=>zA g (by unfold BQ;simp[hg]) (Af h.things hg).2),fun i k r hk hr=>AD (h.refs i k r hk hr) (fun g hg=>zA g (by unfold BQ;simp only[List.mem_append,List.mem_filterMap];exact .inr (.inr (.inr ⟨r,Ux hr,hg⟩))) (Af (h.refs i k r hk hr) hg).2),AD h.pins (fun g hg=>zA g (by unfold BQ;simp[hg]) (Af h.pins hg).2),AD h.leases (fun g hg=>zA g (by unfold BQ;simp[hg]) (Af h.leases hg).2),h.nd⟩
theorem Bk.rows {w:World} {base:Nat} {T P L:Value} {rs:List Value} {ks:List Kd} {ps:List Pd} {ls:List Ld} (h:Bk w base T P L rs ks ps ls):∃ta tc pa pc la lc,T=.slice ta ks.length tc/\P=.slice pa ps.length pc/\L=.slice la ls.length lc/\BC w w.heap.size ta pa la ks ps ls:=by
 obtain⟨ta,tc,rfl⟩:=AK h.things;obtain⟨pa,pc,rfl⟩:=AK h.pins;obtain⟨la,lc,rfl⟩:=AK h.leases;refine⟨ta,tc,pa,pc,la,lc,rfl,rfl,rfl,⟨?_,Bo.own h.pins,Bj.own h.leases⟩⟩;rcases h.things.2 with⟨_,hn⟩|⟨g,cap,zE,e,hb,hg,_⟩
 ·exact .inl (List.length_eq_zero_iff.1 hn)
 ·cases e
  refine .inr ⟨g,0,rfl,(Array.getElem?_eq_some_iff.1 hg).1,fun i k hk=> ?_⟩;have hi:=(Ut hk).1;have zD:=h.len;have hr:rs[i]?=some rs[i]:=Uu (by omega);have hz:(ks.zip rs)[i]?=some (k,rs[i]):=List.getElem?_zip_eq_some.2 ⟨hk,hr⟩;have zF:(ks.zip rs).length=ks.length:=by rw[List.length_zip];omega
  have hc:∀j,j<4->w.cell? ⟨g,i *4+j,none⟩=(kC (k,rs[i]))[j]?:=fun j hj=>(h.things.cellAt (i *4+j) (by omega)).trans (Cf QS hz hj);have ho:=h.refs i k _ hk hr;obtain⟨ra,rc,zA⟩:=AK ho;rw[Nat.zero_add];refine⟨by simpa [kC] using hc 0 (by decide),by simpa [kC] using hc 1 (by decide),by simpa [kC] using hc 2 (by decide),ra,rc,?_,?_⟩
  ·have:=hc 3 (by decide)
   rw[←zA];simpa [kC] using this
  ·rw[zA] at ho
   rcases ho.2 with⟨_,hn⟩|⟨g2,zB,zC,e2,_⟩
   ·exact .inl (List.eq_nil_of_length_eq_zero hn)
   ·cases e2
    exact Ad.own ho
theorem LB {ks:List Kd} (h:∀k∈ks,k.refs.length<=30):DF ks<=30 *ks.length:=by
 induction ks with
 |nil=>simp[DF]
 |cons x xs ih=>
  rw[Na];have h1:=h x (by simp);have h2:=ih (fun k hk=>h k (by simp[hk]));simp only[List.length_cons];omega
def IP (S U T P L Q M:Value) (rs:List Value):List Nat:=((Ax S).toList++(Ax U).toList)++(BQ T P L rs++((Ax Q).toList++(Ax M).toList))
structure AV (w:World) (base:Nat) (S U T P L Q M:Value) (rs:List Value) (v:Vd):Prop where
 s:Ar w base S v.ss
 u:Ar w base U v.tt
 st:Bk w base T P L rs v.ks v.ps v.ls
 q:Ar w base Q v.qs
 m:Ar w base M v.ms
 nd:(IP S U T P L Q M rs).Nodup
theorem AV.lo {w:World} {base:Nat} {S U T P L Q M:Value} {rs:List Value} {v:Vd} (h:AV w base S U T P L Q M rs v):∀g∈IP S U T P L Q M rs,base<=g:=by
 intro g hg;unfold IP at hg;simp only[List.mem_append,Option.mem_toList] at hg;rcases hg with(hg|hg)|hg|hg|hg
 ·exact(h.s.blk hg).1
 ·exact(h.u.blk hg).1
 ·exact h.st.lo g hg
 ·exact(h.q.blk hg).1
 ·exact(h.m.blk hg).1
theorem AV.stays {w w':World} {base:Nat} {S U T P L Q M:Value} {rs:List Value} {v:Vd} (h:AV w base S U T P L Q M rs v) {V:List Nat} (ht:Tn V w w') (hV:∀b∈V,b∉IP S U T P L Q M rs):AV w' base S U T P L Q M rs v:=by
 have e:∀b∈IP S U T P L Q M rs,b∉V:=fun b hb hv=>hV b hv hb;unfold IP at e;simp only[List.mem_append,Option.mem_toList] at e;exact⟨h.s.turn ht (fun g hg=>e g (.inl (.inl hg))),h.u.turn ht (fun g hg=>e g (.inl (.inr hg))),h.st.apart ht (fun b hb hx=>e b (.inr (.inl hx)) hb),h.q.turn ht (fun g hg=>e g (.inr (.inr (.inl hg)))),h.m.turn ht (fun g hg=>e g (.inr (.inr (.inr hg)))),h.nd⟩
theorem AV.below {w w':World} {base:Nat} {S U T P L Q M:Value} {rs:List Value} {v:Vd} (h:AV w base S U T P L Q M rs v) (hb:Uq w w'):AV w' base S U T P L Q M rs v:=
 h.stays (V:=[]) (Tn.of hb) (by simp)
theorem AV.mono {w:World} {base base':Nat} {S U T P L Q M:Value} {rs:List Value} {v:Vd} (h:AV w base S U T P L Q M rs v) (hb:base'<=base):AV w base' S U T P L Q M rs v:=
 ⟨h.s.mono hb,h.u.mono hb,h.st.mono hb,h.q.mono hb,h.m.mono hb,h.nd⟩
theorem AV.of {w:World} {base n1 n2:Nat} {S U T P L Q M:Value} {rs:List Value} {v:Vd} (hs:Ar w base S v.ss) (hu:Ar w base U v.tt) (zC:∀g,Ax S=some g->Ax U≠some g) (h1:∀g,Ax S=some g∨Ax U=some g->g<n1)
 (zA:Bk w n1 T P L rs v.ks v.ps v.ls) (hb:base<=n1) (h2:∀g∈BQ T P L rs,g<n2) (hq:Ar w base Q v.qs) (hm:Ar w base M v.ms) (h3:∀g,Ax Q=some g∨Ax M=some g->n2<=g) (zD:n1<=n2) (zB:∀g,Ax Q=some g->Ax M≠some g):AV w base S U T P L Q M rs v:=by
 refine⟨hs,hu,zA.mono hb,hq,hm,?_⟩;have hn:=zA.nd;rw[Jg] at hn;have hlo:=zA.lo;unfold IP;generalize BQ T P L rs=B at *
 generalize Ax S=s at *
 generalize Ax U=u at *
 generalize Ax Q=q at *
 generalize Ax M=m at *
 have one:∀o:Option Nat,o.toList.Nodup:=fun o=>by cases o<;>simp
 simp only[List.nodup_append,List.mem_append,Option.mem_toList];refine⟨⟨one _,one _,fun a ha b hb e=>zC a ha (e▸hb)⟩,⟨hn,⟨one _,one _,fun a ha b hb e=>zB a ha (e▸hb)⟩,fun a ha b hb e=> ?_⟩,fun a ha b hb e=> ?_⟩
 ·have q1:=h2 a ha
  have q2:=h3 b hb;omega
 ·have q1:=h1 a ha
  rcases hb with hb|hb
  ·have:=hlo b hb;omega
  ·have:=h3 b hb;omega
def TN (k:Nat) (v:Vd):Vd:=
 {v with
  ss:=marks k v.ss.length
  tt:=marks (k+v.ss.length) v.tt.length
  ks:=Qs (k+v.ss.length+v.tt.length) v.ks
  ps:=SJ (k+v.ss.length+v.tt.length+v.ks.length *3+DF v.ks) v.ps
  ls:=SK (k+v.ss.length+v.tt.length+v.ks.length *3+DF v.ks+v.ps.length *2) v.ls
  qs:=marks (k+v.ss.length+v.tt.length+PW v.ks v.ps v.ls) v.qs.length
  ms:=marks (k+v.ss.length+v.tt.length+PW v.ks v.ps v.ls+v.qs.length) v.ms.length}
def TW (v:Vd):Nat:=v.ss.length+v.tt.length+PW v.ks v.ps v.ls+v.qs.length+v.ms.length
end Go.Proofs.YtflhhhnlhlaehaaGreatDoor
