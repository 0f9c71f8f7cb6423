import Derived.Test.YtpekbmegopfhfaaGreatDoorW12
import Derived.Test.YtpekbmegopfhfaaGreatDoorW31
import Derived.Test.YtpekbmegopfhfaaGreatDoorW29
import Derived.Test.YtpekbmegopfhfaaGreatDoorW03
import Derived.Test.YtpekbmegopfhfaaGreatDoorW05
namespace Go.Proofs.YtpekbmegopfhfaaGreatDoor
open Go.ChangeShapes Go.WideShapes Go.ChangeAt Go.RowKit
def cntS (ks:List Kd) (ps:List Pd) (ls:List Ld):Nat:=ks.length *3+refsN ks+ps.length *2+ls.length *3
end Go.Proofs.YtpekbmegopfhfaaGreatDoor
namespace Go.Proofs.YtpekbmegopfhfaaGreatDoor
open Go.ChangeShapes Go.WideShapes Go.ChangeAt Go.RowKit
end Go.Proofs.YtpekbmegopfhfaaGreatDoor
namespace Go.Proofs.YtpekbmegopfhfaaGreatDoor
open Go.ChangeShapes Go.WideShapes Go.ChangeAt Go.RowKit
theorem nilS (w:World) (base:Nat):SAns w base (.slice none 0 0) (.slice none 0 0) (.slice none 0 0) [] [] [] []:=
 ⟨rfl,⟨rfl,.inl ⟨rfl,rfl⟩⟩,fun i k r hk=>(by simp at hk),⟨rfl,.inl ⟨rfl,rfl⟩⟩,⟨rfl,.inl ⟨rfl,rfl⟩⟩,List.nodup_nil⟩
structure An where
 code:Int
 wd:Int
 now:Int
 given:Int
 births:Int
 le:Int
 sm:ByteArray
 a:ByteArray
 b:ByteArray
 ks:List Kd
 ps:List Pd
 ls:List Ld
end Go.Proofs.YtpekbmegopfhfaaGreatDoor
namespace Go.Proofs.YtpekbmegopfhfaaGreatDoor
open Go.ChangeShapes Go.WideShapes Go.ChangeAt Go.RowKit
def r0:Rs:=⟨⟨#[]⟩,0,0,0,0,[],[],[]⟩
def Stp (wd:Int) (r:Rs) (x:ByteArray) (r':Rs):Prop:=(rdE x wd).ok=true/\AYes wd r.now r.given r.births r.ks r.ps r.ls (rdE x wd).k (rdE x wd).sum (rdE x wd).name (rdE x wd).n (rdE x wd).t (rdE x wd).ss r'
def Bad (wd:Int) (r:Rs) (x:ByteArray):Prop:=(rdE x wd).ok=false∨∃c a b,ANo wd r.now r.given r.births r.ks r.ps r.ls (rdE x wd).k (rdE x wd).sum (rdE x wd).name (rdE x wd).n (rdE x wd).t (rdE x wd).ss c a b
def Run (wd:Int):Rs->List ByteArray->Rs->Prop
 |r,[],r'=>r'=r
 |r,x::xs,r'=>∃r1,Stp wd r x r1/\Run wd r1 xs r'
def RunNo (wd:Int) (xs:List ByteArray) (n:Nat):Prop:=∃k r x,n=k+1/\xs[k]?=some x/\Run wd r0 (xs.take k) r/\Bad wd r x
def Rs.ok (wd:Int) (r:Rs):Prop:=ROk wd r.now r.given r.births r.ks r.ps r.ls
theorem Run.snoc {wd:Int} {x:ByteArray} {r1 r2:Rs} (h2:Stp wd r1 x r2):∀{xs:List ByteArray} {r:Rs},Run wd r xs r1->Run wd r (xs++[x]) r2
 |[],r,h=>by
  obtain rfl:r1=r:=h
  exact ⟨r2,h2,rfl⟩
 |y::ys,r,h=>by
  obtain ⟨r3,h3,h4⟩:=h
  exact ⟨r3,h3,Run.snoc h2 h4⟩
theorem Stp.det {wd:Int} {r a b:Rs} {x:ByteArray} (h:Stp wd r x a) (k:Stp wd r x b):a=b:=h.2.det k.2
theorem Stp.ok {wd:Int} {r r':Rs} {x:ByteArray} (h:Stp wd r x r') (hr:r.ok wd):r'.ok wd:=ROk.step hr (rdE_sound h.1).1 h.2
theorem Stp.not {wd:Int} {r r':Rs} {x:ByteArray} (h:Stp wd r x r') (hr:r.ok wd):¬Bad wd r x:=by
 rintro (e|⟨c,a,b,e⟩)
 ·rw [h.1] at e
  cases e
 ·exact e.not hr.kso.nd h.2
theorem Run.det {wd:Int}:∀{xs:List ByteArray} {r a b:Rs},Run wd r xs a->Run wd r xs b->a=b
 |[],r,a,b,h,k=>by
  have h1:a=r:=h
  have h2:b=r:=k
  rw [h1,h2]
 |x::xs,r,a,b,h,k=>by
  obtain ⟨r1,h1,h2⟩:=h
  obtain ⟨r2,k1,k2⟩:=k
  obtain rfl:=h1.det k1
  exact Run.det h2 k2
theorem Run.ok {wd:Int}:∀{xs:List ByteArray} {r r':Rs},Run wd r xs r'->r.ok wd->r'.ok wd
 |[],r,r',h,hr=>by
  obtain rfl:r'=r:=h
  exact hr
 |x::xs,r,r',h,hr=>by
  obtain ⟨r1,h1,h2⟩:=h
  exact Run.ok h2 (h1.ok hr)
theorem Run.at {wd:Int}:∀{xs:List ByteArray} {r r':Rs},Run wd r xs r'->∀{k:Nat} {x:ByteArray},xs[k]?=some x->∃r1 r2,Run wd r (xs.take k) r1/\Stp wd r1 x r2
 |[],r,r',h,k,x,hx=>by simp at hx
 |y::ys,r,r',h,k,x,hx=>by
  obtain ⟨r3,h3,h4⟩:=h
  cases k with
  |zero=>
   simp at hx
   subst hx
   exact ⟨r,r3,rfl,h3⟩
  |succ k=>
   obtain ⟨r1,r2,h5,h6⟩:=Run.at h4 (k:=k) (x:=x) (by simpa using hx)
   exact ⟨r1,r2,⟨r3,h3,h5⟩,h6⟩
theorem r0_ok {wd:Int} (h1:1<=wd) (h8:wd<=8):r0.ok wd:=ROk.zero h1 h8
theorem RunNo.not {wd:Int} {xs:List ByteArray} {n:Nat} {r:Rs} (h1:1<=wd) (h8:wd<=8) (h:RunNo wd xs n):¬Run wd r0 xs r:=fun hr=>by
 obtain ⟨k,r1,x,rfl,hx,h2,h3⟩:=h
 obtain ⟨r2,r3,h4,h5⟩:=hr.at hx
 obtain rfl:=h2.det h4
 exact h5.not (h2.ok (r0_ok h1 h8)) h3
def RTo (wd:Int) (xs:List ByteArray) (x:An):Prop:=
 (¬((1<=wd/\wd<=8)/\xs.length<=4000)/\x=⟨1,0,0,0,0,0,⟨#[]⟩,⟨#[]⟩,⟨#[]⟩,[],[],[]⟩)∨
 (((1<=wd/\wd<=8)/\xs.length<=4000)/\(
   (∃n:Nat,RunNo wd xs n/\x=⟨7,0,0,0,0,n,⟨#[]⟩,⟨#[]⟩,⟨#[]⟩,[],[],[]⟩)∨
   (∃r,Run wd r0 xs r/\x=⟨0,wd,r.now,r.given,r.births,0,⟨#[]⟩,⟨#[]⟩,⟨#[]⟩,r.ks,r.ps,r.ls⟩)))
end Go.Proofs.YtpekbmegopfhfaaGreatDoor
namespace Go.Proofs.YtpekbmegopfhfaaGreatDoor
open Go.ChangeShapes Go.WideShapes Go.ChangeAt Go.RowKit
set_option maxHeartbeats 400000 in
theorem szState_le (wd now given births:Int) (a p l:Option Addr) (ac pc lc:Nat) (ks:List Kd) (ps:List Pd) (ls:List Ld) (left:Int) (w:World) (hrow:SRows w w.heap.size a p l ks ps ls)
 (hk:KMem ks) (hp:PMem ps) (hl:LMem ls) (h1:0<=left) (h2:left<=1048576):
 Calls Tryz.prog 65 #[.agg #[.int .i64 wd,.int .i64 now,.int .i64 given,.int .i64 births,.slice a ks.length ac,.slice p ps.length pc,.slice l ls.length lc],.int .i64 left] w fun e w'=>∃r:Int,e=.returned (.int .i64 r)/\Below w.heap.size w w'/\r<=left/\(0<=r->SFit ks ps ls):=by
 have hb:Below w.heap.size w (w.alloc (.cells #[.int .i64 wd,.int .i64 now,.int .i64 given,.int .i64 births,.slice a ks.length ac,.slice p ps.length pc,.slice l ls.length lc] 57)):=(Below.refl _ _).alloc (Nat.le_refl _) _
 have hx:=SBox.new w wd now given births (.slice a ks.length ac) (.slice p ps.length pc) (.slice l ls.length lc) 57
 go_enter Tryz.func65,Tryz.ntmps65
 go_wp2_with fail
 refine (szKeptS_any a ac ks _ _ (hrow.below' hb).k hk (by omega) (by omega)).mono ?_
 rintro e w1 ⟨r,rfl,hb1,hr,hf1⟩
 have hB:=hb.trans (hb1.mono (by simp))
 obtain ⟨_,_,_,_,_,x5,x6,x7⟩:=hx.below hb1
 have hz:=hb1.size
 clear hb1
 by_cases h3:r<0
 ·go_wp2
  go_ret
  exact ⟨_,rfl,hB,by omega,fun h=>by omega⟩
 ·go_wp2_with fail
  refine (szPinS_any p pc ps _ _ (hrow.below' hB).p hp (by omega) (by omega)).mono ?_
  rintro e w2 ⟨r2,rfl,hb2,hr2,hf2⟩
  have hB2:=hB.trans (hb2.mono hB.size)
  replace x6:=(hb2.cell (p:=⟨w.heap.size,6,none⟩) x7).trans x6
  have hz2:=hb2.size
  clear hb2 x5
  by_cases h4:r2<0
  ·go_wp2
   go_ret
   exact ⟨_,rfl,hB2,by omega,fun h=>by omega⟩
  ·go_wp2_with fail
   refine (szLeaseS_any l lc ls _ _ (hrow.below' hB2).l hl (by omega) (by omega)).mono ?_
   rintro e w3 ⟨r3,rfl,hb3,hr3,hf3⟩
   have hB3:=hB2.trans (hb3.mono hB2.size)
   by_cases h5:r3<0
   ·go_wp2
    go_ret
    exact ⟨_,rfl,hB3,by omega,fun h=>by omega⟩
   ·go_wp2
    go_ret
    exact ⟨_,rfl,hB3,by omega,fun _=>⟨(hf1 (by omega)).1,(hf1 (by omega)).2,hf2 (by omega),hf3 (by omega)⟩⟩
def RBox (w:World) (b:Nat) (ph:Int) (Q M:Value) (top at_ ro:Int):Prop:=
 w.cell? ⟨b,0,none⟩=some (.int .i64 ph)/\w.cell? ⟨b,1,none⟩=some Q/\w.cell? ⟨b,2,none⟩=some M/\w.cell? ⟨b,3,none⟩=some (.int .i64 top)/\
  w.cell? ⟨b,4,none⟩=some (.int .i64 at_)/\w.cell? ⟨b,5,none⟩=some (.int .i64 ro)/\b<w.heap.size
theorem RBox.new (w:World) (ph top at_ ro:Int) (Q M:Value) (t:TypeId):RBox (w.alloc (.cells #[.int .i64 ph,Q,M,.int .i64 top,.int .i64 at_,.int .i64 ro] t)) w.heap.size ph Q M top at_ ro:=
 ⟨by simp,by simp,by simp,by simp,by simp,by simp,by simp⟩
theorem RBox.keep {w w':World} {b B:Nat} {ph top at_ ro:Int} {Q M:Value} (h:RBox w b ph Q M top at_ ro) (hb:Below B w w') (hB:b<B):RBox w' b ph Q M top at_ ro:=by
 obtain ⟨h0,h1,h2,h3,h4,h5,h7⟩:=h
 exact ⟨(hb.cell (p:=⟨b,0,none⟩) hB).trans h0,(hb.cell (p:=⟨b,1,none⟩) hB).trans h1,(hb.cell (p:=⟨b,2,none⟩) hB).trans h2,(hb.cell (p:=⟨b,3,none⟩) hB).trans h3,
  (hb.cell (p:=⟨b,4,none⟩) hB).trans h4,(hb.cell (p:=⟨b,5,none⟩) hB).trans h5,Nat.lt_of_lt_of_le h7 hb.size⟩
theorem RBox.below {w w':World} {b:Nat} {ph top at_ ro:Int} {Q M:Value} (h:RBox w b ph Q M top at_ ro) (hb:Below w.heap.size w w'):RBox w' b ph Q M top at_ ro:=h.keep hb h.2.2.2.2.2.2
set_option maxHeartbeats 400000 in
theorem szS_any (a:Option Addr) (cap:Nat) (ss:List ByteArray) (left:Int) (w:World) (B:Nat) (hrow:SRow w B a ss) (hl:ss.length<=maxLen) (hs:∀s∈ss,s.size<=maxLen) (h1:0<=left) (h2:left<=1048576):
 Calls Tryz.prog 9 #[.slice a ss.length cap,.int .i64 left] w fun e w'=>∃r:Int,e=.returned (.int .i64 r)/\w'=w/\r<=left/\(0<=r->ss.length<=1048576):=by
 by_cases hfit:(ss.length:Int)+bulk ss<=left
 ·refine (szS_yes a cap ss left w B hrow h2 hfit).mono ?_
  rintro e w' ⟨rfl,rfl⟩
  exact ⟨_,rfl,rfl,by omega,fun _=>by omega⟩
 ·refine (szS_no a cap ss left w B hrow hl hs h1 h2 (by omega)).mono ?_
  rintro e w' ⟨rfl,rfl⟩
  exact ⟨_,rfl,rfl,by omega,fun h=>by omega⟩
structure RFit (qs ms:List ByteArray):Prop where
 q:qs.length<=1048576
 m:ms.length<=1048576
set_option maxHeartbeats 400000 in
theorem szRound_any (ph top at_ ro:Int) (a b:Option Addr) (ac bc:Nat) (qs ms:List ByteArray) (left:Int) (w:World) (hq:SRow w w.heap.size a qs) (hm:SRow w w.heap.size b ms)
 (hl:qs.length<=maxLen) (hs:∀s∈qs,s.size<=maxLen) (hl':ms.length<=maxLen) (hs':∀s∈ms,s.size<=maxLen) (h1:0<=left) (h2:left<=1048576):
 Calls Tryz.prog 66 #[.agg #[.int .i64 ph,.slice a qs.length ac,.slice b ms.length bc,.int .i64 top,.int .i64 at_,.int .i64 ro],.int .i64 left] w fun e w'=>∃r:Int,e=.returned (.int .i64 r)/\Below w.heap.size w w'/\(0<=r->RFit qs ms):=by
 have hb:Below w.heap.size w (w.alloc (.cells #[.int .i64 ph,.slice a qs.length ac,.slice b ms.length bc,.int .i64 top,.int .i64 at_,.int .i64 ro] 58)):=(Below.refl _ _).alloc (Nat.le_refl _) _
 go_enter Tryz.func66,Tryz.ntmps66
 go_wp2_with fail
 refine (szS_any a ac qs _ _ w.heap.size (hq.below hb) hl hs (by omega) (by omega)).mono ?_
 rintro e w1 ⟨r,rfl,rfl,hr,hf1⟩
 by_cases h3:r<0
 ·go_wp2
  go_ret
  exact ⟨_,rfl,hb,fun h=>by omega⟩
 ·go_wp2_with fail
  refine (szS_any b bc ms _ _ w.heap.size (hm.below hb) hl' hs' (by omega) (by omega)).mono ?_
  rintro e w2 ⟨r2,rfl,rfl,hr2,hf2⟩
  by_cases h4:r2<0
  ·go_wp2
   go_ret
   exact ⟨_,rfl,hb,fun h=>by omega⟩
  ·go_wp2
   go_ret
   exact ⟨_,rfl,hb,fun _=>⟨hf1 (by omega),hf2 (by omega)⟩⟩
set_option maxHeartbeats 400000 in
theorem eqRound_yes (ph top at_ ro:Int) (a b a' b':Option Addr) (ac bc ac' bc':Nat) (qs ms:List ByteArray) (w:World) (hq:SRow w w.heap.size a qs) (hm:SRow w w.heap.size b ms) (hq':SRow w w.heap.size a' qs) (hm':SRow w w.heap.size b' ms) (hf:RFit qs ms):
 Calls Tryz.prog 61 #[.agg #[.int .i64 ph,.slice a qs.length ac,.slice b ms.length bc,.int .i64 top,.int .i64 at_,.int .i64 ro],.agg #[.int .i64 ph,.slice a' qs.length ac',.slice b' ms.length bc',.int .i64 top,.int .i64 at_,.int .i64 ro]] w fun e w'=>e=.returned (.bool true)/\Below w.heap.size w w':=by
 have hb:Below w.heap.size w ((w.alloc (.cells #[.int .i64 ph,.slice a qs.length ac,.slice b ms.length bc,.int .i64 top,.int .i64 at_,.int .i64 ro] 42)).alloc (.cells #[.int .i64 ph,.slice a' qs.length ac',.slice b' ms.length bc',.int .i64 top,.int .i64 at_,.int .i64 ro] 42)):=((Below.refl _ _).alloc (Nat.le_refl _) _).alloc (by simp) _
 go_enter Tryz.func61,Tryz.ntmps61
 go_wp2_with fail
 refine (eqS_yes a a' ac ac' qs _ _ _ (hq.below hb) (hq'.below hb) hf.q).mono ?_
 rintro e w' ⟨rfl,n,rfl⟩
 have hbn:=belowN hb n
 go_wp2_with fail
 refine (eqS_yes b b' bc bc' ms _ _ _ (hm.below hbn) (hm'.below hbn) hf.m).mono ?_
 rintro e w' ⟨rfl,m,rfl⟩
 go_wp2
 go_ret
 exact ⟨rfl,belowN hb (n+m)⟩
set_option maxHeartbeats 2000000 in
theorem toRound_any (ph top at_ ro:Int) (a b:Option Addr) (ac bc:Nat) (qs ms:List ByteArray) (w:World) (hq:SRow w w.heap.size a qs) (hm:SRow w w.heap.size b ms) (hf:RFit qs ms):
 Calls Tryz.prog 70 #[.agg #[.int .i64 ph,.slice a qs.length ac,.slice b ms.length bc,.int .i64 top,.int .i64 at_,.int .i64 ro]] w fun e w'=>∃g k,e=.returned (.agg #[.int .i64 ph,.slice (some ⟨g,0,none⟩) qs.length qs.length,.slice (some ⟨k,0,none⟩) ms.length ms.length,.int .i64 top,.int .i64 at_,.int .i64 ro])/\w.heap.size<=g/\g<k/\
  w'.ownsRow w.heap.size 9 1 (.slice (some ⟨g,0,none⟩) qs.length qs.length) qs.length (qs.map Value.string)/\
  w'.ownsRow w.heap.size 9 1 (.slice (some ⟨k,0,none⟩) ms.length ms.length) ms.length (ms.map Value.string)/\Below w.heap.size w w':=by
 have hbA:Below w.heap.size w (((w.alloc (.cells #[.int .i64 ph,.slice a qs.length ac,.slice b ms.length bc,.int .i64 top,.int .i64 at_,.int .i64 ro] 58)).alloc (.cells #[.int .i64 0,.slice none 0 0,.slice none 0 0,.int .i64 0,.int .i64 0,.int .i64 0] 42)).alloc (.cells #[.int .i64 ph,.slice none 0 0,.slice none 0 0,.int .i64 0,.int .i64 0,.int .i64 0] 42)):=(((Below.refl _ _).alloc (Nat.le_refl _) _).alloc (by simp) _).alloc (by simp;omega) _
 go_enter Tryz.func70,Tryz.ntmps70
 go_wp2_with fail
 refine (toS_any a ac qs _ (hq.below' hbA) hf.q).mono ?_
 rintro e w1 ⟨g,rfl,hg,hown,hb⟩
 have hB1:=hbA.trans (hb.mono (by simp;omega))
 obtain ⟨hc,hfz⟩:=bcell hb
 have hz:=hb.size
 simp at hz hg
 go_wp2_with fail
 obtain ⟨W2,hW2⟩:∃W2,W2=w1.setCell ⟨w.heap.size+1+1,1,none⟩ (.slice (some ⟨g,0,none⟩) qs.length qs.length):=⟨_,rfl⟩
 have hB2:Below w.heap.size w W2:=by rw [hW2];exact hB1.setCell (by simp;omega) _
 have hzW:W2.heap.size=w1.heap.size:=by rw [hW2];simp
 have hO2:W2.ownsRow (w.heap.size+3) 9 1 (.slice (some ⟨g,0,none⟩) qs.length qs.length) qs.length (qs.map Value.string):=by
  rw [hW2];exact (ownsRow_setCell_below hown (by simp) _).mono (by simp)
 have hbx:RBox W2 (w.heap.size+1+1) ph (.slice (some ⟨g,0,none⟩) qs.length qs.length) (.slice none 0 0) 0 0 0:=by
  rw [hW2]
  exact ⟨by simp [go_sem,hc],by simp [go_sem,hc],by simp [go_sem,hc],by simp [go_sem,hc],by simp [go_sem,hc],by simp [go_sem,hc],by simp;omega⟩
 have hby:RBox W2 (w.heap.size+1) 0 (.slice none 0 0) (.slice none 0 0) 0 0 0:=by
  rw [hW2]
  exact ⟨by simp [go_sem,hc],by simp [go_sem,hc],by simp [go_sem,hc],by simp [go_sem,hc],by simp [go_sem,hc],by simp [go_sem,hc],by simp;omega⟩
 have hbz:RBox W2 w.heap.size ph (.slice a qs.length ac) (.slice b ms.length bc) top at_ ro:=by
  rw [hW2]
  exact ⟨by simp [go_sem,hc],by simp [go_sem,hc],by simp [go_sem,hc],by simp [go_sem,hc],by simp [go_sem,hc],by simp [go_sem,hc],by simp;omega⟩
 have f2:∀o,W2.frozen? ⟨w.heap.size+1+1,o,none⟩=false:=fun o=>by rw [hW2];simp [go_sem,hfz]
 have f1:∀o,W2.frozen? ⟨w.heap.size+1,o,none⟩=false:=fun o=>by rw [hW2];simp [go_sem,hfz]
 rw [←hW2]
 clear hW2 hown hb hc hfz
 refine (toS_any b bc ms _ (hm.below' hB2) hf.m).mono ?_
 rintro e w3 ⟨k,rfl,hk,hown3,hb3⟩
 have hz3:=hb3.size
 obtain ⟨x0,x1,x2,x3,x4,x5,x6⟩:=hbx.below hb3
 obtain ⟨y0,y1,y2,y3,y4,y5,y6⟩:=hby.below hb3
 obtain ⟨v0,v1,v2,v3,v4,v5,v6⟩:=hbz.below hb3
 replace f2:∀o,w3.frozen? ⟨w.heap.size+1+1,o,none⟩=false:=fun o=>(hb3.frozen (p:=⟨w.heap.size+1+1,o,none⟩) (by simp;omega)).trans (f2 o)
 replace f1:∀o,w3.frozen? ⟨w.heap.size+1,o,none⟩=false:=fun o=>(hb3.frozen (p:=⟨w.heap.size+1,o,none⟩) (by simp;omega)).trans (f1 o)
 have hlt:=(hO2.lt g rfl).2
 have hO3:w3.ownsRow (w.heap.size+3) 9 1 (.slice (some ⟨g,0,none⟩) qs.length qs.length) qs.length (qs.map Value.string):=hO2.kept (row:=none) ⟨hb3.os,hb3.tape,hb3.output,hb3.size,fun i hi _=>hb3.block i hi⟩ (.inr (by simp [Value.ownBlock]))
 have hO4:=hown3.mono (show w.heap.size+3<=W2.heap.size by omega)
 have hB3:=hB2.trans (hb3.mono (by omega))
 have HO:Hid _:=And.intro hO3 (And.intro hO4 hB3)
 clear hO3 hO4 hB3 hown3 hO2 hbx hby hbz hb3 hB1 hB2 hbA
 go_wp2
 refine bodyPost_ret (v:=.agg #[.int .i64 ph,.slice (some ⟨g,0,none⟩) qs.length qs.length,.slice (some ⟨k,0,none⟩) ms.length ms.length,.int .i64 top,.int .i64 at_,.int .i64 ro]) (by simp [results,Tryz.results70,go_sem,y0,y1,y2,y3,y4,y5]) rfl ⟨g,k,rfl,by omega,by omega,?_,?_,?_⟩
 ·refine World.ownsRow.mono ?_ (show w.heap.size<=w.heap.size+3 by omega)
  iterate 10 (refine ownsRow_setCell_below ?_ (by simp) _)
  exact HO.out.1
 ·refine World.ownsRow.mono ?_ (show w.heap.size<=w.heap.size+3 by omega)
  iterate 10 (refine ownsRow_setCell_below ?_ (by simp) _)
  exact HO.out.2.1
 ·iterate 10 (refine Below.setCell ?_ (by simp<;>omega) _)
  exact HO.out.2.2
end Go.Proofs.YtpekbmegopfhfaaGreatDoor
namespace Go.Proofs.YtpekbmegopfhfaaGreatDoor
open Go.ChangeShapes Go.WideShapes Go.ChangeAt Go.RowKit
attribute [local go_sem↓] Go.wp_at_zero Go.wp_at_succ
set_option maxRecDepth 20000 in
set_option maxHeartbeats 4000000 in
theorem marksOf_any (ph top at_ ro:Int) (q a:Option Addr) (ql qc ac:Nat) (ms:List ByteArray) (w:World) (hrow:SRow w w.heap.size a ms) (hl:ms.length<=1048576):
 Calls Tryz.prog 180 #[.agg #[.int .i64 ph,.slice q ql qc,.slice a ms.length ac,.int .i64 top,.int .i64 at_,.int .i64 ro]] w fun e w'=>∃b c f,e=.returned (.map (some b))/\w.heap.size<=b/\KMapC w' 139 b ms.length c f/\MK ms f c/\Below w.heap.size w w':=by
 have hmm:= @run_makeMap Tryz.prog
 go_enter Tryz.func180,Tryz.ntmps180
 go_wp2
 obtain ⟨W0,hW0⟩:∃W,W=(w.alloc (Obj.cells #[.int .i64 ph,.slice q ql qc,.slice a ms.length ac,.int .i64 top,.int .i64 at_,.int .i64 ro] 42)).alloc (Obj.map #[] 0):=⟨_,rfl⟩
 have hB0:Below w.heap.size w W0:=by
  rw [hW0]
  exact ((Below.refl _ _).alloc (Nat.le_refl _) _).alloc (by simp) _
 have hz0:W0.heap.size=w.heap.size+2:=by rw [hW0];simp
 have hM0:KMapC W0 139 (w.heap.size+1) 0 0 (fun _=>none):=by
  have:=KMapC.new (w.alloc (Obj.cells #[.int .i64 ph,.slice q ql qc,.slice a ms.length ac,.int .i64 top,.int .i64 at_,.int .i64 ro] 42)) 139
  rw [hW0]
  rw [World.size_alloc] at this
  exact this
 rw [←hW0]
 clear hW0 hmm
 go_loopw [10] (fun i wr=>∃(k c:Nat) (f:Lit->Option Value),k<=ms.length/\i=.int .i64 k/\Hid (KMapC wr 139 (w.heap.size+1) k c f)/\Hid (MK (ms.take k) f c)/\W0.grownBy wr (some (w.heap.size+1))) (fun i _=>ms.length -(intOf i).toNat)
 case atStart=>exact ⟨0,0,_,Nat.zero_le _,rfl,hM0,by rw [List.take_zero];exact MK.nil,grown_refl _ _⟩
 case round=>
  obtain ⟨k,c,f,hk,rfl,HM,HF,hgr⟩:=hrel
  have hbel:Below w.heap.size w wr:=hB0.grown hgr (by omega) (by intro j hj;cases hj;omega)
  have hzr:=hgr.size
  by_cases hlt:k<ms.length
  ·obtain ⟨b,off,ha,hb,hc⟩:=(hrow.below hbel).at hlt
   subst ha
   have HG:Hid (ms[k]?=some ms[k]):=List.getElem?_eq_getElem hlt
   have c0:=hc k _ HG.out
   clear hc hrow
   generalize ms[k]=x at *
   obtain ⟨n,hn,hn0,hn1,_⟩:=HF.out.get (keyL x)
   have hnl:(ms.take k).length=k:=by simp;omega
   rw [hnl] at hn1
   have hwr:IntKind.i64.wrap (n+1)=n+1:=cnt_wrap (by omega) (by omega)
   go_wp2
   go_region_with (first
    |(go_at_call 135;refine (key_any x _).mono ?_;rintro e w2 ⟨rfl,hb2⟩;have hb12:Below wr.heap.size wr w2:=(Below.refl _ _).drew.trans (hb2.mono (by simp));obtain ⟨st,w3,w4,he,hl1,hl3,hs4,hm4,hg3,hg4⟩:=(HM.out.keep hb12 (by omega)).bump keyed Tryz.underlying236 (by unfold maxLen;omega) zeroInt (key_lit x) (.int .i64 (n+1));rw [hn] at he hl1 hl3;unfold goInt at he hs4))
   all_goals
    have hgn:W0.grownBy w4 (some (w.heap.size+1)):=grown_trans hgr (grown_trans (grown_below _ hb12) hg4)
    have HN:Hid (MK (ms.take (k+1)) (upd f (keyL x) (.int .i64 (n+1))) (if (f (keyL x)).isSome then c else c+1)):=by
     have:=HF.out.snoc x hn0 (by rw [hnl];exact hn1)
     rw [List.take_add_one,HG.out]
     exact this
    have HMn:Hid _:=hm4
    clear hm4 he hl1 hl3 hs4 hg3 hg4 hb12 hb2
    go_wp2
    exact ⟨⟨k+1,_,_,by omega,by go_num,HMn,HN,hgn⟩,by simp [intOf];omega⟩
  ·rw [List.take_of_length_le (by omega)] at HF
   obtain rfl:k=ms.length:=by omega
   go_wp2
   go_ret
   exact ⟨_,c,f,rfl,by omega,HM.out,HF.out,hbel⟩
end Go.Proofs.YtpekbmegopfhfaaGreatDoor
namespace Go.Proofs.YtpekbmegopfhfaaGreatDoor
open Go.ChangeShapes Go.WideShapes Go.ChangeAt Go.RowKit
attribute [local go_sem↓] Go.wp_at_zero Go.wp_at_succ
set_option maxHeartbeats 400000 in
theorem wrong_any (s:ByteArray) (wd:Int) (b:Nat) (w:World) (hc:w.cell? ⟨b,0,none⟩=some (.int .i64 wd)):
 Calls Tryz.prog 178 #[.string s,.pointer (some ⟨b,0,none⟩)] w fun e w'=>e=.returned (.bool (!decide ((s.size:Int)=wd)))/\w'=w:=by
 go_enter Tryz.func178,Tryz.ntmps178
 by_cases h:(s.size:Int)=wd
 ·have h':((s.size:Int) !=wd)=false:=by simp [h]
  go_wp2
  go_ret
  exact ⟨by simp [h],rfl⟩
 ·have h':((s.size:Int) !=wd)=true:=by simp [h]
  go_wp2
  go_ret
  exact ⟨by simp [h],rfl⟩
set_option maxHeartbeats 1000000 in
theorem indexFunc_any (a:Option Addr) (cap b:Nat) (ss:List ByteArray) (wd:Int) (w:World) (B:Nat) (hrow:SRow w B a ss) (hl:ss.length<=1048576) (hc:w.cell? ⟨b,0,none⟩=some (.int .i64 wd)):
 Calls Tryz.prog 213 #[.slice a ss.length cap,.func (.func 178) #[] #[.pointer (some ⟨b,0,none⟩)]] w fun e w'=>∃r:Int,e=.returned (.int .i64 r)/\(0<=r↔∃s∈ss,¬(s.size:Int)=wd)/\w'=w:=by
 go_enter Tryz.func213,Tryz.ntmps213
 go_wp2
 go_loop [8] (fun i=>∃k:Nat,k<=ss.length/\i=.int .i64 k/\Hid (∀j x,j<k->ss[j]?=some x->(x.size:Int)=wd)) (fun i=>ss.length -(intOf i).toNat)
 case atStart=>exact ⟨0,Nat.zero_le _,rfl,fun j x h=>by omega⟩
 case round=>
  obtain ⟨k,hk,rfl,hall⟩:=hrel
  by_cases hlt:k<ss.length
  ·obtain ⟨b',off,ha,hb,hc'⟩:=hrow.at hlt
   subst ha
   have hg:Hid (ss[k]?=some ss[k]):=List.getElem?_eq_getElem hlt
   have c0:=hc' k _ hg
   clear hc' hrow
   generalize ss[k]=x at *
   go_wp2_with fail
   refine (wrong_any x wd b w hc).mono ?_
   rintro e w1 ⟨rfl,rfl⟩
   by_cases h:(x.size:Int)=wd
   ·have HA:Hid (∀j y,j<k+1->ss[j]?=some y->(y.size:Int)=wd):=by
     intro j y hj hy
     rcases Nat.lt_or_ge j k with h'|h'
     ·exact hall j y h' hy
     ·obtain rfl:j=k:=by omega
      rw [hg.out] at hy
      cases hy
      exact h
    have hd:decide ((x.size:Int)=wd)=true:=by simp [h]
    rw [hd]
    go_wp2
    exact ⟨⟨k+1,by omega,by go_num,HA⟩,by simp [intOf];omega⟩
   ·have hd:decide ((x.size:Int)=wd)=false:=by simp [h]
    rw [hd]
    go_wp2
    go_ret
    exact ⟨_,rfl,⟨fun _=>⟨x,List.mem_of_getElem? hg.out,h⟩,fun _=>by omega⟩,rfl⟩
  ·go_wp2
   go_ret
   refine ⟨_,rfl,⟨fun h=>by omega,fun ⟨s,hs,h⟩=> ?_⟩,rfl⟩
   obtain ⟨j,hj,rfl⟩:=List.getElem_of_mem hs
   exact absurd (hall j _ (by omega) (List.getElem?_eq_getElem hj)) h
open Classical in
set_option maxHeartbeats 400000 in
theorem containsFunc_any (a:Option Addr) (cap b:Nat) (ss:List ByteArray) (wd:Int) (w:World) (B:Nat) (hrow:SRow w B a ss) (hl:ss.length<=1048576) (hc:w.cell? ⟨b,0,none⟩=some (.int .i64 wd)):
 Calls Tryz.prog 179 #[.slice a ss.length cap,.func (.func 178) #[] #[.pointer (some ⟨b,0,none⟩)]] w fun e w'=>e=.returned (.bool (decide (∃s∈ss,¬(s.size:Int)=wd)))/\w'=w:=by
 go_enter Tryz.func179,Tryz.ntmps179
 go_wp2_with fail
 refine (indexFunc_any a cap b ss wd w B hrow hl hc).mono ?_
 rintro e w1 ⟨r,rfl,hr,rfl⟩
 by_cases h:0<=r
 ·have hd:decide ((0:Int)<=r)=true:=by simpa using h
  go_wp2
  go_ret
  exact ⟨by simp [hr.1 h],rfl⟩
 ·have hd:decide ((0:Int)<=r)=false:=by simpa using h
  have hd':¬∃s∈ss,¬(s.size:Int)=wd:=fun e=>h (hr.2 e)
  go_wp2
  go_ret
  exact ⟨by rw [decide_eq_false hd'];rfl,rfl⟩
structure SumsOk (wd:Int) (qs ms:List ByteArray):Prop where
 nq:qs.length<=23200
 nm:ms.length<=600
 q:∀s∈qs,(s.size:Int)=wd
 m:∀s∈ms,(s.size:Int)=wd
 nd:ms.Nodup
theorem keys_nodup {wd:Int} {ms:List ByteArray} (h8:wd<=8) (hm:∀s∈ms,(s.size:Int)=wd):(ms.map keyL).Nodup↔ms.Nodup:=by
 induction ms with
 |nil=>simp
 |cons x r ih=>
  have ih:=ih (fun s hs=>hm s (by simp [hs]))
  simp only [List.map_cons,List.nodup_cons,ih]
  have hx:=hm x (by simp)
  constructor
  ·rintro ⟨h1,h2⟩
   exact ⟨fun h=>h1 (List.mem_map.2 ⟨x,h,rfl⟩),h2⟩
  ·rintro ⟨h1,h2⟩
   refine ⟨fun h=> ?_,h2⟩
   obtain ⟨y,hy,e⟩:=List.mem_map.1 h
   have hys:=hm y (by simp [hy])
   have:y=x:=key_inj e (by omega) (by omega)
   subst this
   exact h1 hy
set_option maxRecDepth 20000 in
set_option maxHeartbeats 2000000 in
theorem validSums_any (ph top at_ ro wd:Int) (a b:Option Addr) (ac bc:Nat) (qs ms:List ByteArray) (w:World) (hq:SRow w w.heap.size a qs) (hm:SRow w w.heap.size b ms) (hf:RFit qs ms) (h8:wd<=8):
 Calls Tryz.prog 154 #[.agg #[.int .i64 ph,.slice a qs.length ac,.slice b ms.length bc,.int .i64 top,.int .i64 at_,.int .i64 ro],.int .i64 wd] w fun e w'=>Says (SumsOk wd qs ms) w w' e:=by
 have hfq:=hf.q
 have hfm:=hf.m
 have hb:Below w.heap.size w ((w.alloc (.cells #[.int .i64 ph,.slice a qs.length ac,.slice b ms.length bc,.int .i64 top,.int .i64 at_,.int .i64 ro] 42)).alloc (.cells #[.int .i64 wd] 3)):=((Below.refl _ _).alloc (Nat.le_refl _) _).alloc (by simp) _
 go_enter Tryz.func154,Tryz.ntmps154
 by_cases h1:qs.length<=23200
 ·have d1:decide ((23200:Int)<(qs.length:Int))=false:=by simp;omega
  by_cases h2:ms.length<=600
  ·have d2:decide ((600:Int)<(ms.length:Int))=false:=by simp;omega
   go_wp2_with fail
   refine (containsFunc_any a ac _ qs wd _ w.heap.size (hq.below hb) hf.q (by simp [go_sem])).mono ?_
   rintro e w1 ⟨rfl,rfl⟩
   by_cases h3:∃s∈qs,¬(s.size:Int)=wd
   ·rw [decide_eq_true h3]
    go_wp2
    go_ret
    exact Says.no (fun h=>by obtain ⟨s,hs,h'⟩:=h3;exact h' (h.q s hs)) hb
   ·rw [decide_eq_false h3]
    go_wp2_with fail
    refine (containsFunc_any b bc _ ms wd _ w.heap.size (hm.below hb) hf.m (by simp [go_sem])).mono ?_
    rintro e w2 ⟨rfl,rfl⟩
    by_cases h4:∃s∈ms,¬(s.size:Int)=wd
    ·rw [decide_eq_true h4]
     go_wp2
     go_ret
     exact Says.no (fun h=>by obtain ⟨s,hs,h'⟩:=h4;exact h' (h.m s hs)) hb
    ·rw [decide_eq_false h4]
     have hqa:∀s∈qs,(s.size:Int)=wd:=fun s hs=>Classical.byContradiction fun h=>h3 ⟨s,hs,h⟩
     have hma:∀s∈ms,(s.size:Int)=wd:=fun s hs=>Classical.byContradiction fun h=>h4 ⟨s,hs,h⟩
     have HA:Hid _:=And.intro hqa hma
     clear hqa hma h3 h4
     go_wp2_with fail
     obtain ⟨W,hW⟩:∃W,W=((w.alloc (.cells #[.int .i64 ph,.slice a qs.length ac,.slice b ms.length bc,.int .i64 top,.int .i64 at_,.int .i64 ro] 42)).alloc (.cells #[.int .i64 wd] 3)):=⟨_,rfl⟩
     have hbx:RBox W w.heap.size ph (.slice a qs.length ac) (.slice b ms.length bc) top at_ ro:=by
      rw [hW]
      exact (RBox.new w ph top at_ ro _ _ 42).below ((Below.refl _ _).alloc (Nat.le_refl _) _)
     rw [←hW] at hb ⊢
     have HX:Hid _:=hbx
     have HMR:Hid _:=hm.below' hb
     obtain ⟨x0,x1,x2,x3,x4,x5,x6⟩:=hbx
     clear hW
     go_region_with (first
      |(go_at_call 180;refine (marksOf_any ph top at_ ro a b qs.length ac bc ms W.drew HMR.out (by omega)).mono ?_;rintro e w2 ⟨mb,cc,f,rfl,hmb,hkc,hmk,hb2⟩;have hlen:=fun ty=>hkc.len Tryz.underlying236 ty;have y2:=(hb2.cell (p:=⟨w.heap.size,2,none⟩) x6).trans x2))
     all_goals
      have HB:Hid (Below w.heap.size w w2):=(hb.drew.trans (hb2.mono hb.size))
      have HK:Hid _:=hmk
      clear hlen hkc hmk hb2
      go_wp2
      go_ret
      refine ⟨_,rfl,?_,HB.out⟩
      have h6:=HK.out.all
      rw [keys_nodup h8 HA.out.2] at h6
      have h7:(cc:Int)=ms.length↔ms.Nodup:=by rw [←h6];omega
      simp only [beq_iff_eq,h7]
      exact ⟨fun h=>⟨h1,h2,HA.out.1,HA.out.2,h⟩,fun h=>h.nd⟩
  ·have d2:decide ((600:Int)<(ms.length:Int))=true:=by simp;omega
   go_wp2
   go_ret
   exact Says.no (fun h=>h2 h.nm) hb
 ·have d1:decide ((23200:Int)<(qs.length:Int))=true:=by simp;omega
  go_wp2
  go_ret
  exact Says.no (fun h=>h1 h.nq) hb
end Go.Proofs.YtpekbmegopfhfaaGreatDoor
namespace Go.Proofs.YtpekbmegopfhfaaGreatDoor
open Go.ChangeShapes Go.WideShapes Go.ChangeAt Go.RowKit
theorem range_any (n lo hi:Int) (w:World):
 Calls Tryz.prog 52 #[.int .i64 n,.int .i64 lo,.int .i64 hi] w fun e w'=>e=.returned (.bool (decide (lo<=n/\n<=hi)))/\w'=w:=by
 by_cases h1:lo<=n
 ·by_cases h2:n<=hi
  ·go_enter Tryz.func52,Tryz.ntmps52
   go_wp2
   go_ret
   exact ⟨ret_b (by simp [h1,h2]),rfl⟩
  ·go_enter Tryz.func52,Tryz.ntmps52
   go_wp2
   go_ret
   exact ⟨ret_b (by simp [h2]),rfl⟩
 ·have h1':decide (lo<=n)=false:=by simpa using h1
  go_enter Tryz.func52,Tryz.ntmps52
  go_wp2
  go_ret
  exact ⟨ret_b (by simp),rfl⟩
theorem itime_any (n:Int) (w:World):
 Calls Tryz.prog 153 #[.int .i64 n] w fun e w'=>e=.returned (.bool (decide (0<=n/\n<=1000000000)))/\w'=w:=by
 by_cases h1:0<=n
 ·by_cases h2:n<=1000000000
  ·go_enter Tryz.func153,Tryz.ntmps153
   go_wp2
   go_ret
   exact ⟨ret_b (by simp [h1,h2]),rfl⟩
  ·have h2':decide (n<=1000000000)=false:=by simpa using h2
   go_enter Tryz.func153,Tryz.ntmps153
   go_wp2
   go_ret
   exact ⟨rfl,rfl⟩
 ·have h1':decide (0<=n)=false:=by simpa using h1
  go_enter Tryz.func153,Tryz.ntmps153
  go_wp2
  go_ret
  exact ⟨rfl,rfl⟩
end Go.Proofs.YtpekbmegopfhfaaGreatDoor
