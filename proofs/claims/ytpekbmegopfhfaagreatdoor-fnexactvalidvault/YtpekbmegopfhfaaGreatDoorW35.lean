import Derived.Test.YtpekbmegopfhfaaGreatDoorW34
import Derived.Test.YtpekbmegopfhfaaGreatDoorW13
import Derived.Test.YtpekbmegopfhfaaGreatDoorW21
import Derived.Test.YtpekbmegopfhfaaGreatDoorW29
import Derived.RangeFuncNested
import Derived.Shelf.Abstract
import Derived.Shelf.RegionOpen
import Derived.RangeFuncBound
import Derived.RangeFuncCalls
import Derived.RangeFuncLeaves
import Derived.WalkKit
import Derived.OwnWalkIn
import Derived.TacticsInMore
import Derived.LoopNIn
import Derived.LoopIn
import Derived.Test.YtpekbmegopfhfaaGreatDoorW01
namespace Go.Proofs.YtpekbmegopfhfaaGreatDoor
open Go.ChangeShapes Go.WideShapes Go.ChangeAt Go.RowKit
structure CT (w:World) (base b:Nat) (ta pa la:Option Addr) (pc lc:Nat) (zs:List (Kd×Value)) (ps:List Pd) (ls:List Ld):Prop where
 tb:ta=some ⟨b,0,none⟩∨zs=[]
 z:ZRow w b 0 zs
 bl:b<w.heap.size
 po:w.ownsRow base 134 2 (.slice pa ps.length pc) ps.length (rowC pC ps)
 lo:w.ownsRow base 137 3 (.slice la ls.length lc) ls.length (rowC lC ls)
 lb:base<=w.heap.size
 bL:some b≠(Value.slice la ls.length lc).ownBlock
 pL:∀g,(Value.slice pa ps.length pc).ownBlock=some g->(Value.slice la ls.length lc).ownBlock≠some g
 zL:∀z∈zs,∀ad n rc,z.2=.slice (some ad) n rc->z.1.refs≠[]->some ad.block≠(Value.slice la ls.length lc).ownBlock
 zb:zs=[]∨base<=b
 zr:∀z∈zs,∀ad n rc,z.2=.slice (some ad) n rc->z.1.refs≠[]->base<=ad.block
def SAt (base:Nat) (L:Value) (wd now given births:Int) (ks:List Kd) (ps:List Pd) (ls:List Ld) (kd:Int) (s nm:ByteArray) (num:Int) (text:ByteArray) (refs:List ByteArray) (w:World) (e:Ending) (w':World):Prop:=
 Tn L.ownBlock.toList w w'/\(
  (∃c a b,ANo wd now given births ks ps ls kd s nm num text refs c a b/\e=.returned (.agg (refC c a b).toArray))∨
  (∃r b1 ta1 tc1 zs1 pa1 pc1 la1 lc1,AYes wd now given births ks ps ls kd s nm num text refs r/\e=.returned (.agg #[.int .i64 0,.int .i64 wd,.int .i64 r.now,.int .i64 r.given,.int .i64 r.births,.slice ta1 r.ks.length tc1,.slice pa1 r.ps.length pc1,.slice la1 r.ls.length lc1,.string r.sm,.int .i64 r.le,.string ⟨#[]⟩,.string ⟨#[]⟩])/\zs1.map (·.1)=r.ks/\CT w' base b1 ta1 pa1 la1 pc1 lc1 zs1 r.ps r.ls))
section
variable {w w':World} {base b:Nat} {ta pa la:Option Addr} {pc lc:Nat} {zs:List (Kd×Value)} {ps:List Pd} {ls:List Ld}
theorem CT.below (h:CT w base b ta pa la pc lc zs ps ls) (hb:Below w.heap.size w w'):CT w' base b ta pa la pc lc zs ps ls:=
 ⟨h.tb,h.z.below hb h.bl,Nat.lt_of_lt_of_le h.bl hb.size,own_below h.po hb,own_below h.lo hb,Nat.le_trans h.lb hb.size,h.bL,h.pL,h.zL,h.zb,h.zr⟩
theorem CT.krow (h:CT w base b ta pa la pc lc zs ps ls):KRow w w.heap.size ta (zs.map (·.1)):=by
 rcases h.tb with e|e
 ·rw [e]
  exact h.z.krow h.bl
 ·rw [e]
  exact .inl rfl
theorem CT.prow (h:CT w base b ta pa la pc lc zs ps ls):PRow w w.heap.size pa ps:=PRow.own h.po
theorem CT.lrow (h:CT w base b ta pa la pc lc zs ps ls):LRow w w.heap.size la ls:=LRow.own h.lo
theorem CT.withP (h:CT w base b ta pa la pc lc zs ps ls) {n g c:Nat} {ps':List Pd} (ho:w.ownsRow n 134 2 (.slice (some ⟨g,0,none⟩) ps'.length c) ps'.length (rowC pC ps')) (hn:base<=n) (hl:∀q,(Value.slice la ls.length lc).ownBlock=some q->q<n):CT w base b ta (some ⟨g,0,none⟩) la c lc zs ps' ls:=
 ⟨h.tb,h.z,h.bl,ho.mono hn,h.lo,h.lb,h.bL,fun q hq hL=>by have h1:=(own_lt ho hq).1;have h2:=hl q hL;omega,h.zL,h.zb,h.zr⟩
theorem CT.withL (h:CT w base b ta pa la pc lc zs ps ls) {n g c:Nat} {ls':List Ld} (ho:w.ownsRow n 137 3 (.slice (some ⟨g,0,none⟩) ls'.length c) ls'.length (rowC lC ls')) (hn:base<=n) (hb:b<n) (hp:∀q,(Value.slice pa ps.length pc).ownBlock=some q->q<n) (hz:∀z∈zs,∀ad m rc,z.2=.slice (some ad) m rc->z.1.refs≠[]->ad.block<n):CT w base b ta pa (some ⟨g,0,none⟩) pc c zs ps ls':=by
 have hg:n<=g:=(own_lt ho (g:=g) rfl).1
 refine ⟨h.tb,h.z,h.bl,h.po,ho.mono hn,h.lb,fun e=> ?_,fun q hq e=> ?_,fun z hz' ad m rc e1 e2 e=> ?_,h.zb,h.zr⟩
 ·have:b=g:=by simpa [Value.ownBlock] using e
  omega
 ·have h1:g=q:=by simpa [Value.ownBlock] using e
  have:=hp q hq
  omega
 ·have h1:ad.block=g:=by simpa [Value.ownBlock] using e
  have:=hz z hz' ad m rc e1 e2
  omega
theorem CT.lts (h:CT w base b ta pa la pc lc zs ps ls):(∀q,(Value.slice pa ps.length pc).ownBlock=some q->q<w.heap.size)/\(∀q,(Value.slice la ls.length lc).ownBlock=some q->q<w.heap.size)/\∀z∈zs,∀ad m rc,z.2=.slice (some ad) m rc->z.1.refs≠[]->ad.block<w.heap.size:=
 ⟨fun _ hq=>(own_lt h.po hq).2,fun _ hq=>(own_lt h.lo hq).2,fun _ hz _ _ _ e1 e2=>h.z.refs_lt hz e1 e2⟩
theorem own_cap {w:World} {base:Nat} {e:TypeId} {size:Nat} {a:Option Addr} {m c n:Nat} {xs:List Value} (h:w.ownsRow base e size (.slice a m c) n xs) (ha:a=none):c=0:=by
 rcases h.2 with ⟨hv,_⟩|⟨g,cap,cur,hv,_⟩
 ·injection hv
 ·injection hv with e1
  rw [ha] at e1
  cases e1
end
theorem own_past1 {w w':World} {base:Nat} {e:TypeId} {size:Nat} {v:Value} {n:Nat} {xs:List Value} (h:w.ownsRow base e size v n xs) {q:Nat} (ht:Tn [q] w w') (hq:q<base):w'.ownsRow base e size v n xs:=
 own_same h (fun g hg=>ht.block g (own_lt h hg).2 (by have:=(own_lt h hg).1;simp;omega))
theorem own_past2 {w w':World} {base:Nat} {e:TypeId} {size:Nat} {v:Value} {n:Nat} {xs:List Value} (h:w.ownsRow base e size v n xs) {q:Nat} (ht:Tn [q] w w') (hq:∀g,v.ownBlock=some g->g≠q):w'.ownsRow base e size v n xs:=
 own_same h (fun g hg=>ht.block g (own_lt h hg).2 (by simp;exact hq g hg))
theorem below_past {w X w' w'':World} (hX:Below w.heap.size w X) (h1:Below X.heap.size X w') (h2:Tn [w.heap.size+2] w' w''):Below w.heap.size w w'':=
 (hX.trans (h1.mono hX.size)).trans (h2.below (Nat.le_trans hX.size h1.size) (by intro v hv;simp at hv;omega))
set_option maxRecDepth 20000 in
set_option maxHeartbeats 4000000 in
theorem l4Pin_missing (wd now given births kd num:Int) (ta pa la ra:Option Addr) (tc pn pc ln lc rn rc:Nat) (ks:List Kd) (s nm text:ByteArray) (w:World) (hks:KRow w w.heap.size ta ks) (hkl:ks.length<=1000) (hth:¬There ks s):
 Calls Tryz.prog 86 #[.agg #[.int .i64 wd,.int .i64 now,.int .i64 given,.int .i64 births,.slice ta ks.length tc,.slice pa pn pc,.slice la ln lc],.agg #[.int .i64 kd,.string s,.string nm,.int .i64 num,.string text,.slice ra rn rc]] w fun e w'=>e=.returned (.agg (refC 2 ⟨#[]⟩ ⟨#[]⟩).toArray)/\Below w.heap.size w w':=by
 obtain ⟨W,hW⟩:∃W,W=((w.alloc (.cells #[.int .i64 wd,.int .i64 now,.int .i64 given,.int .i64 births,.slice ta ks.length tc,.slice pa pn pc,.slice la ln lc] 28)).alloc (.cells #[.int .i64 kd,.string s,.string nm,.int .i64 num,.string text,.slice ra rn rc] 77)).alloc (.cells #[.int .i64 0,.int .i64 0,.int .i64 0,.int .i64 0,.int .i64 0,.slice none 0 0,.slice none 0 0,.slice none 0 0,.string ⟨#[]⟩,.int .i64 0,.string ⟨#[]⟩,.string ⟨#[]⟩] 30):=⟨_,rfl⟩
 have bW:Below w.heap.size w W:=by rw [hW];exact (((Below.refl _ _).alloc (Nat.le_refl _) _).alloc (by simp) _).alloc (by simp;omega) _
 have x0:CellsAt W w.heap.size [.int .i64 wd,.int .i64 now,.int .i64 given,.int .i64 births,.slice ta ks.length tc,.slice pa pn pc,.slice la ln lc]:=by
  rw [hW]
  exact CellsAt.below (CellsAt.new w _ 28) (((Below.refl _ _).alloc (Nat.le_refl _) _).alloc (by simp) _)
 have xe:CellsAt W (w.heap.size+1) [.int .i64 kd,.string s,.string nm,.int .i64 num,.string text,.slice ra rn rc]:=by
  have h1:=CellsAt.new (w.alloc (.cells #[.int .i64 wd,.int .i64 now,.int .i64 given,.int .i64 births,.slice ta ks.length tc,.slice pa pn pc,.slice la ln lc] 28)) [.int .i64 kd,.string s,.string nm,.int .i64 num,.string text,.slice ra rn rc] 77
  rw [World.size_alloc] at h1
  rw [hW]
  exact CellsAt.below h1 ((Below.refl _ _).alloc (Nat.le_refl _) _)
 have x1:CellsAt W (w.heap.size+2) z12:=by
  have h1:=CellsAt.new ((w.alloc (.cells #[.int .i64 wd,.int .i64 now,.int .i64 given,.int .i64 births,.slice ta ks.length tc,.slice pa pn pc,.slice la ln lc] 28)).alloc (.cells #[.int .i64 kd,.string s,.string nm,.int .i64 num,.string text,.slice ra rn rc] 77)) z12 30
  rw [World.size_alloc,World.size_alloc] at h1
  rw [hW]
  exact h1
 have HF:Hid _:=find_any wd now given births ta tc (.slice pa pn pc) (.slice la ln lc) ks s W w.heap.size (KRow.below hks bW) bW.size (by omega)
 have hfl:=find_lt hth
 have HW:Hid _:=hW
 have HX1:Hid (CellsAt W (w.heap.size+2) z12):=x1
 obtain ⟨v0,v1,v2,v3,v4,v5,v6,v7⟩:=sbox_of x0
 obtain ⟨u1,_⟩:=xe 1 _ rfl
 clear hW x0 x1 xe hks hth
 go_enter Tryz.func86,Tryz.ntmps86
 go_upto_region 1 with fail
 rw [←HW.out]
 clear HW
 go_wp2_with fail
 refine Calls.mono HF.out ?_
 rintro e w1 ⟨rfl,hb1⟩
 obtain ⟨⟨y0,q0⟩,⟨y1,q1⟩,⟨y2,q2⟩,⟨y3,q3⟩,⟨y4,q4⟩,⟨y5,q5⟩,⟨y6,q6⟩,⟨y7,q7⟩,⟨y8,q8⟩,⟨y9,q9⟩,⟨y10,q10⟩,y11,q11⟩:=z12at (CellsAt.below (v:=.int .i64 0) HX1.out hb1)
 have hB:Below w.heap.size w w1:=bW.trans (hb1.mono bW.size)
 generalize findI ks s=fi at *
 clear v0 v1 v2 v3 v4 v5 v6 v7 HF u1
 go_wp2
 refine bodyPost_ret (v:=.agg (refC 2 ⟨#[]⟩ ⟨#[]⟩).toArray) (by simp [results,Tryz.results86,go_sem,y0,y1,y2,y3,y4,y5,y6,y7,y8,y9,y10,y11,refC]) rfl ?_
 exact ⟨rfl,hB.trans (Tn.below (tn12 w1 (w.heap.size+2) _ _ _ _ _ _ _ _ _ _ _ _) hB.size (by intro v hv;simp at hv;omega))⟩
theorem pinP_len_no {ps:List Pd} {n:ByteArray} (s:ByteArray) (h:¬∃x∈ps,x.name=n):(pinP ps n s).length=ps.length+1:=by
 have h2:∀(l:List Pd),(¬∃x∈l,x.name=n)->(l.filter (fun x=>less x.name n)).length+(l.filter (fun x=> !(less x.name n)&& !decide (x.name=n))).length=l.length:=by
  intro l
  induction l with
  |nil=>intro _;rfl
  |cons x l ih=>
   intro hl
   have hn:x.name≠n:=fun e=>hl ⟨x,by simp,e⟩
   have:=ih (fun ⟨y,hy,e⟩=>hl ⟨y,by simp [hy],e⟩)
   cases hl:less x.name n<;>simp [hl,hn]<;>omega
 have:=h2 ps h
 unfold pinP
 rw [List.length_append,List.length_append]
 simp
 omega
def LeaQ (wd now given births num:Int) (zs:List (Kd×Value)) (ps:List Pd) (ls:List Ld) (s:ByteArray) (X:World) (e:Ending) (w':World):Prop:=
 Below X.heap.size X w'/\(((ls.length=200∨given=1000000000)/\e=.returned (.agg (refC 4 ⟨#[]⟩ ⟨#[]⟩).toArray))∨
  ((ls.length<200/\given<1000000000)/\∃b1 tc1 zs1 p1 pc1 g c,e=.returned (.agg #[.int .i64 0,.int .i64 wd,.int .i64 now,.int .i64 (given+1),.int .i64 births,.slice (some ⟨b1,0,none⟩) zs.length tc1,.slice (some ⟨p1,0,none⟩) ps.length pc1,.slice (some ⟨g,0,none⟩) (ls.length+1) c,.string ⟨#[]⟩,.int .i64 (given+1),.string ⟨#[]⟩,.string ⟨#[]⟩])/\zs1.map (·.1)=zs.map (·.1)/\w'.ownsRow X.heap.size 114 4 (.slice (some ⟨b1,0,none⟩) zs1.length tc1) zs1.length (rowC kC zs1)/\(∀z∈zs1,∃g' c',z.2=.slice (some ⟨g',0,none⟩) z.1.refs.length c'/\w'.ownsRow X.heap.size 9 1 z.2 z.1.refs.length (z.1.refs.map Value.string))/\w'.ownsRow X.heap.size 134 2 (.slice (some ⟨p1,0,none⟩) ps.length pc1) ps.length (rowC pC ps)/\w'.ownsRow X.heap.size 137 3 (.slice (some ⟨g,0,none⟩) (ls.length+1) c) (ls++[(⟨given+1,s,now+num⟩:Ld)]).length (rowC lC (ls++[(⟨given+1,s,now+num⟩:Ld)]))/\b1≠g/\p1≠g/\∀z∈zs1,∀ad n rc,z.2=.slice (some ad) n rc->ad.block≠g))
theorem ZRow.some {w:World} {b off:Nat} {zs:List (Kd×Value)} (h:ZRow w b off zs):KSome w ⟨b,off,none⟩ (zs.map (·.1)):=by
 intro i k hk
 rw [List.getElem?_map] at hk
 obtain ⟨z,hz,rfl⟩:=Option.map_eq_some_iff.1 hk
 obtain ⟨⟨_,_,_,h3⟩,ad,rc,h4,_⟩:=h i z hz
 exact ⟨ad,rc,by rw [h3,h4]⟩
theorem nd_apart {T P L:Option Nat} {R:List Nat} {l:Nat} (h:(T.toList++(P.toList++(L.toList++R))).Nodup) (hL:L=some l):T≠some l/\P≠some l/\l∉R:=by
 subst hL
 cases T<;>cases P<;>simp_all<;>grind
section
variable (base:Nat) (wd now given births:Int) (b:Nat) (ta pa la:Option Addr) (tc pc lc:Nat) (zs:List (Kd×Value)) (ps:List Pd) (ls:List Ld) (s nm text:ByteArray) (num:Int) (refs:List ByteArray) (ra:Option Addr) (rc:Nat) (w:World)
theorem l4Apply3 (h:CT w base b ta pa la pc lc zs ps ls) (ha:AOk wd now given births (zs.map (·.1)) ps ls 3 num text refs):
 Calls Tryz.prog 42 #[.agg #[.int .i64 wd,.int .i64 now,.int .i64 given,.int .i64 births,.slice ta zs.length tc,.slice pa ps.length pc,.slice la ls.length lc],.agg #[.int .i64 3,.string s,.string nm,.int .i64 num,.string text,.slice ra refs.length rc]] w (SAt base (.slice la ls.length lc) wd now given births (zs.map (·.1)) ps ls 3 s nm num text refs w):=by
 refine l4Apply_unpin wd now given births ta pa la zs.length tc ps.length pc ls.length lc s nm text num ra refs.length rc w [] (fun X e w'=>UnpinTo X w' e wd now given births (.slice ta zs.length tc) (.slice la ls.length lc) ps nm) _ (by simp) (fun X hX _=>l4Unpin_any wd now given births ta la pa zs.length tc ls.length lc pc ps nm X (h.below hX).prow (by have:=ha.np;omega)) ?_ ?_
 ·rintro X e w' ⟨hb,⟨_,rfl⟩|⟨_,g,c,rfl,_⟩⟩
  ·exact ⟨Tn.of hb,_,_,_,_,_,_,_,_,_,_,_,_,_,_,_,_,_,_,rfl⟩
  ·exact ⟨Tn.of hb,_,_,_,_,_,_,_,_,_,_,_,_,_,_,_,_,_,_,rfl⟩
 ·rintro X e w' w'' hX hz ⟨hb,⟨hno,rfl⟩|⟨hyes,g,c,rfl,ho⟩⟩ ht
  ·exact ⟨Tn.of (below_past hX hb ht),.inl ⟨5,_,_,.inr ⟨rfl,rfl,.inr (.inl ⟨rfl,hno,rfl⟩)⟩,rfl⟩⟩
  ·have hB:=below_past hX hb ht
   have hc:=h.below hB
   have ho2:=own_past1 ho ht (by omega)
   exact ⟨Tn.of hB,.inr ⟨⟨⟨#[]⟩,0,now,given,births,zs.map (·.1),unpinP ps nm,ls⟩,b,ta,tc,zs,_,c,la,lc,.inr (.inr (.inl ⟨rfl,hyes,rfl⟩)),by rw [List.length_map],rfl,hc.withP ho2 (Nat.le_trans h.lb hX.size) (fun q hq=>Nat.lt_of_lt_of_le (h.lts.2.1 q hq) hX.size)⟩⟩
theorem l4Apply5 (h:CT w base b ta pa la pc lc zs ps ls) (ha:AOk wd now given births (zs.map (·.1)) ps ls 5 num text refs):
 Calls Tryz.prog 42 #[.agg #[.int .i64 wd,.int .i64 now,.int .i64 given,.int .i64 births,.slice ta zs.length tc,.slice pa ps.length pc,.slice la ls.length lc],.agg #[.int .i64 5,.string s,.string nm,.int .i64 num,.string text,.slice ra refs.length rc]] w (SAt base (.slice la ls.length lc) wd now given births (zs.map (·.1)) ps ls 5 s nm num text refs w):=by
 refine l4Apply_give wd now given births ta pa la zs.length tc ps.length pc ls.length lc s nm text num ra refs.length rc w [] (fun X e w'=>GiveTo X w' e wd now given births (.slice ta zs.length tc) (.slice pa ps.length pc) ls num) _ (by simp) (fun X hX _=>l4Give_any wd now given births ta pa la zs.length tc ps.length pc lc ls num X (h.below hX).lrow (by have:=ha.nl;omega)) ?_ ?_
 ·rintro X e w' ⟨hb,⟨_,rfl⟩|⟨_,g,c,rfl,_⟩⟩
  ·exact ⟨Tn.of hb,_,_,_,_,_,_,_,_,_,_,_,_,_,_,_,_,_,_,rfl⟩
  ·exact ⟨Tn.of hb,_,_,_,_,_,_,_,_,_,_,_,_,_,_,_,_,_,_,rfl⟩
 ·rintro X e w' w'' hX hz ⟨hb,⟨hno,rfl⟩|⟨hyes,g,c,rfl,ho⟩⟩ ht
  ·exact ⟨Tn.of (below_past hX hb ht),.inl ⟨5,_,_,.inr ⟨rfl,rfl,.inr (.inr (.inr (.inl ⟨rfl,hno,rfl⟩)))⟩,rfl⟩⟩
  ·have hB:=below_past hX hb ht
   have hc:=h.below hB
   have ho2:=own_past1 ho ht (by omega)
   exact ⟨Tn.of hB,.inr ⟨⟨⟨#[]⟩,0,now,given,births,zs.map (·.1),ps,giveL ls num⟩,b,ta,tc,zs,pa,pc,_,c,.inr (.inr (.inr (.inr (.inl ⟨rfl,hyes,rfl⟩)))),by rw [List.length_map],rfl,hc.withL ho2 (Nat.le_trans h.lb hX.size) (Nat.lt_of_lt_of_le h.bl hX.size) (fun q hq=>Nat.lt_of_lt_of_le (h.lts.1 q hq) hX.size) (fun z hz a n c e1 e2=>Nat.lt_of_lt_of_le (h.lts.2.2 z hz a n c e1 e2) hX.size)⟩⟩
theorem l4Apply6 (h:CT w base b ta pa la pc lc zs ps ls) (ha:AOk wd now given births (zs.map (·.1)) ps ls 6 num text refs):
 Calls Tryz.prog 42 #[.agg #[.int .i64 wd,.int .i64 now,.int .i64 given,.int .i64 births,.slice ta zs.length tc,.slice pa ps.length pc,.slice la ls.length lc],.agg #[.int .i64 6,.string s,.string nm,.int .i64 num,.string text,.slice ra refs.length rc]] w (SAt base (.slice la ls.length lc) wd now given births (zs.map (·.1)) ps ls 6 s nm num text refs w):=by
 refine l4Apply_wait wd now given births ta pa la zs.length tc ps.length pc ls.length lc s nm text num ra refs.length rc w [] (fun X e w'=>WaitTo X w' e wd now given births (.slice ta zs.length tc) (.slice pa ps.length pc) ls num) _ (by simp) (fun X hX _=>l4Wait_any wd now given births ta pa la zs.length tc ps.length pc lc ls num X (h.below hX).lrow (by have:=ha.nl;omega) ha.now0 ha.now1 ha.num0 ha.num1) ?_ ?_
 ·rintro X e w' ⟨hb,⟨_,rfl⟩|⟨_,g,c,rfl,_⟩⟩
  ·exact ⟨Tn.of hb,_,_,_,_,_,_,_,_,_,_,_,_,_,_,_,_,_,_,rfl⟩
  ·exact ⟨Tn.of hb,_,_,_,_,_,_,_,_,_,_,_,_,_,_,_,_,_,_,rfl⟩
 ·rintro X e w' w'' hX hz ⟨hb,⟨hno,rfl⟩|⟨hyes,g,c,rfl,ho⟩⟩ ht
  ·exact ⟨Tn.of (below_past hX hb ht),.inl ⟨4,_,_,.inr ⟨rfl,rfl,.inr (.inr (.inr (.inr (.inl ⟨rfl,hno,rfl⟩))))⟩,rfl⟩⟩
  ·have hB:=below_past hX hb ht
   have hc:=h.below hB
   have ho2:=own_past1 ho ht (by omega)
   exact ⟨Tn.of hB,.inr ⟨⟨⟨#[]⟩,0,now+num,given,births,zs.map (·.1),ps,waitL ls (now+num)⟩,b,ta,tc,zs,pa,pc,_,c,.inr (.inr (.inr (.inr (.inr (.inl ⟨rfl,hyes,rfl⟩))))),by rw [List.length_map],rfl,hc.withL ho2 (Nat.le_trans h.lb hX.size) (Nat.lt_of_lt_of_le h.bl hX.size) (fun q hq=>Nat.lt_of_lt_of_le (h.lts.1 q hq) hX.size) (fun z hz a n c e1 e2=>Nat.lt_of_lt_of_le (h.lts.2.2 z hz a n c e1 e2) hX.size)⟩⟩
theorem l4Apply2 (h:CT w base b ta pa la pc lc zs ps ls) (ha:AOk wd now given births (zs.map (·.1)) ps ls 2 num text refs):
 Calls Tryz.prog 42 #[.agg #[.int .i64 wd,.int .i64 now,.int .i64 given,.int .i64 births,.slice ta zs.length tc,.slice pa ps.length pc,.slice la ls.length lc],.agg #[.int .i64 2,.string s,.string nm,.int .i64 num,.string text,.slice ra refs.length rc]] w (SAt base (.slice la ls.length lc) wd now given births (zs.map (·.1)) ps ls 2 s nm num text refs w):=by
 have hkl:(zs.map (·.1)).length<=1000:=by have:=ha.kso.len;omega
 by_cases hth:There (zs.map (·.1)) s
 ·refine l4Apply_pin wd now given births ta pa la zs.length tc ps.length pc ls.length lc s nm text num ra refs.length rc w [] (fun X e w'=>PinTo X w' e wd now given births (.slice ta zs.length tc) (.slice la ls.length lc) ps nm s) _ (by simp) (fun X hX _=> ?_) ?_ ?_
  ·have h1:=l4Pin_any wd now given births 2 num ta pa la ra tc pc lc ls.length refs.length rc (zs.map (·.1)) ps nm s text X (h.below hX).krow (h.below hX).prow hkl (by have:=ha.np;omega) hth ha.psort
   rw [List.length_map] at h1
   exact h1
  ·rintro X e w' ⟨hb,⟨_,rfl⟩|⟨_,g,c,rfl,_⟩⟩
   ·exact ⟨Tn.of hb,_,_,_,_,_,_,_,_,_,_,_,_,_,_,_,_,_,_,rfl⟩
   ·exact ⟨Tn.of hb,_,_,_,_,_,_,_,_,_,_,_,_,_,_,_,_,_,_,rfl⟩
  ·rintro X e w' w'' hX hz ⟨hb,⟨hno,rfl⟩|⟨hyes,g,c,rfl,ho⟩⟩ ht
   ·have hl:=pinP_length ps nm s
    have hnx:¬∃x∈ps,x.name=nm:=fun hx=>by have:=hl.2 hx;have:=ha.np;omega
    exact ⟨Tn.of (below_past hX hb ht),.inl ⟨4,_,_,.inr ⟨rfl,rfl,.inl ⟨rfl,.inr ⟨hth,hnx,by have:=hl.1;have:=ha.np;omega,rfl⟩⟩⟩,rfl⟩⟩
   ·have hB:=below_past hX hb ht
    have hc:=h.below hB
    have ho2:=own_past1 ho ht (by omega)
    have hroom:(∃x∈ps,x.name=nm)∨ps.length<100:=by
     by_cases hx:∃x∈ps,x.name=nm
     ·exact .inl hx
     ·have:=pinP_len_no s hx
      exact .inr (by omega)
    exact ⟨Tn.of hB,.inr ⟨⟨⟨#[]⟩,0,now,given,births,zs.map (·.1),pinP ps nm s,ls⟩,b,ta,tc,zs,_,c,la,lc,.inr (.inl ⟨rfl,hth,hroom,rfl⟩),by rw [List.length_map],rfl,hc.withP ho2 (Nat.le_trans h.lb hX.size) (fun q hq=>Nat.lt_of_lt_of_le (h.lts.2.1 q hq) hX.size)⟩⟩
 ·refine l4Apply_pin wd now given births ta pa la zs.length tc ps.length pc ls.length lc s nm text num ra refs.length rc w [] (fun X e w'=>e=.returned (.agg (refC 2 ⟨#[]⟩ ⟨#[]⟩).toArray)/\Below X.heap.size X w') _ (by simp) (fun X hX _=> ?_) ?_ ?_
  ·have h1:=l4Pin_missing wd now given births 2 num ta pa la ra tc ps.length pc ls.length lc refs.length rc (zs.map (·.1)) s nm text X (h.below hX).krow hkl hth
   rw [List.length_map] at h1
   exact h1
  ·rintro X e w' ⟨rfl,hb⟩
   exact ⟨Tn.of hb,_,_,_,_,_,_,_,_,_,_,_,_,_,_,_,_,_,_,rfl⟩
  ·rintro X e w' w'' hX hz ⟨rfl,hb⟩ ht
   exact ⟨Tn.of (below_past hX hb ht),.inl ⟨2,_,_,.inr ⟨rfl,rfl,.inl ⟨rfl,.inl ⟨hth,rfl⟩⟩⟩,rfl⟩⟩
set_option maxHeartbeats 2000000 in
theorem l4Apply4 (h:CT w base b ta pa la pc lc zs ps ls) (ha:AOk wd now given births (zs.map (·.1)) ps ls 4 num text refs) (h30:∀k∈zs.map (·.1),k.refs.length<=30):
 Calls Tryz.prog 42 #[.agg #[.int .i64 wd,.int .i64 now,.int .i64 given,.int .i64 births,.slice ta zs.length tc,.slice pa ps.length pc,.slice la ls.length lc],.agg #[.int .i64 4,.string s,.string nm,.int .i64 num,.string text,.slice ra refs.length rc]] w (SAt base (.slice la ls.length lc) wd now given births (zs.map (·.1)) ps ls 4 s nm num text refs w):=by
 have hkl:(zs.map (·.1)).length<=600:=ha.kso.len
 refine l4Apply_lease wd now given births ta pa la zs.length tc ps.length pc ls.length lc s nm text num ra refs.length rc w (findI (zs.map (·.1)) s) (LeaQ wd now given births num zs ps ls s) _ (fun X hX=> ?_) (fun h0 X hX hz=> ?_) ?_ ?_ ?_
 ·have h1:=find_any wd now given births ta tc (.slice pa ps.length pc) (.slice la ls.length lc) (zs.map (·.1)) s X X.heap.size (h.below hX).krow (Nat.le_refl _) (by omega)
  rw [List.length_map] at h1
  exact h1
 ·have hcx:=h.below hX
  have h1:=l4Copy_opt wd now given births ta pa la tc pc lc (zs.map (·.1)) ps ls X ⟨hcx.krow,hcx.prow,hcx.lrow⟩ (fun A hA=>by
   rcases hcx.tb with e|e
   ·rw [e] at hA
    cases hA
    exact hcx.z.some
   ·rw [e]
    intro i k hk
    simp at hk) (own_cap hcx.po) (own_cap hcx.lo) hkl ha.np ha.nl h30
  rw [List.length_map] at h1
  refine h1.mono ?_
  rintro e w' ⟨T,P',L',rs,rfl,hS,hv,hb⟩
  obtain ⟨b1,n1,tc1,rfl⟩:=hv T (by simp)
  obtain ⟨p1,n2,pc1,rfl⟩:=hv P' (by simp)
  obtain ⟨l1,n3,lc1,rfl⟩:=hv L' (by simp)
  obtain ⟨_,_,e1⟩:=own_val hS.things
  obtain ⟨_,_,e2⟩:=own_val hS.pins
  obtain ⟨_,_,e3⟩:=own_val hS.leases
  cases e1
  cases e2
  cases e3
  refine ⟨⟨_,_,_,_,_,_,_,_,_,rfl,fun Y hY=> ?_⟩,hb⟩
  refine (l4Lease_any wd now given births (some ⟨b1,0,none⟩) (some ⟨p1,0,none⟩) (some ⟨l1,0,none⟩) _ tc1 ps.length pc1 lc1 X.heap.size ls s num Y (own_below hS.leases hY) (Nat.le_trans hb.size hY.size) (by have:=ha.nl;omega) ha.given0 ha.given1 ha.now0 ha.now1 ha.num0 ha.num1).mono ?_
  rintro e w3 ⟨ht,hle⟩
  have hlX:X.heap.size<=l1:=(own_lt hS.leases rfl).1
  have hB3:Below X.heap.size X w3:=(hb.trans (hY.mono hb.size)).trans (ht.below (Nat.le_trans hb.size hY.size) (by intro v hv;simp [Value.ownBlock] at hv;omega))
  refine ⟨hB3,?_⟩
  rcases hle with ⟨hfull,rfl⟩|⟨⟨hl2,hg2⟩,g,c,rfl,ho,hko⟩
  ·exact .inl ⟨by have:=ha.nl;have:=ha.given1;omega,rfl⟩
  ·have hnd:=hS.nd
   rw [blks_eq] at hnd
   unfold blks at hnd
   obtain ⟨n1,n2,n3⟩:=nd_apart hnd (l:=l1) rfl
   have hsame:∀{e:TypeId} {size:Nat} {v:Value} {n:Nat} {xs:List Value},w'.ownsRow X.heap.size e size v n xs->v.ownBlock≠some l1->w3.ownsRow X.heap.size e size v n xs:=fun {e size v n xs} ho1 hne=>own_same (own_below ho1 hY) (fun q hq=>ht.block q (own_lt (own_below ho1 hY) hq).2 (fun e=>by simp [Value.ownBlock] at e;exact hne (by rw [hq,e])))
   have hlen:((zs.map (·.1)).zip rs).length=zs.length:=by rw [List.length_zip,hS.len,List.length_map];omega
   refine .inr ⟨⟨hl2,hg2⟩,b1,tc1,(zs.map (·.1)).zip rs,p1,pc1,g,c,by simp,?_,?_,?_,hsame hS.pins n2,ho,?_,?_,?_⟩
   ·rw [List.map_fst_zip (by rw [hS.len];exact Nat.le_refl _)]
   ·have h2:=hsame hS.things n1
    rw [hlen]
    rw [List.length_map] at h2
    exact h2
   ·intro z hz
    obtain ⟨i,hi⟩:=List.getElem?_of_mem hz
    rw [List.getElem?_zip_eq_some] at hi
    have hr:=hS.refs i z.1 z.2 hi.1 hi.2
    obtain ⟨g',n',c',e'⟩:=hv z.2 (by simp;exact .inr (.inr (.inr (List.mem_of_getElem? hi.2))))
    obtain ⟨a',c'',e''⟩:=own_val hr
    rw [e'] at e''
    cases e''
    refine ⟨g',c',e',hsame hr (fun e=>n3 ?_)⟩
    exact List.mem_filterMap.2 ⟨z.2,List.mem_of_getElem? hi.2,e⟩
   ·have q1:=(own_lt hS.things (g:=b1) rfl).2
    have q2:=hY.size
    rcases hko with hh|hh
    ·have e1:l1=g:=by simpa [Value.ownBlock] using hh
     intro e
     exact n1 (by simp [Value.ownBlock];omega)
    ·omega
   ·have q1:=(own_lt hS.pins (g:=p1) rfl).2
    have q2:=hY.size
    rcases hko with hh|hh
    ·have e1:l1=g:=by simpa [Value.ownBlock] using hh
     intro e
     exact n2 (by simp [Value.ownBlock];omega)
    ·omega
   ·intro z hz a n' c' e2
    obtain ⟨i,hi⟩:=List.getElem?_of_mem hz
    rw [List.getElem?_zip_eq_some] at hi
    have hr:=hS.refs i z.1 z.2 hi.1 hi.2
    obtain ⟨g',m',d',e3⟩:=hv z.2 (by simp;exact .inr (.inr (.inr (List.mem_of_getElem? hi.2))))
    rw [e3] at e2
    cases e2
    have q1:=(own_lt hr (g:=g') (by rw [e3];rfl)).2
    have q2:=hY.size
    show g'≠g
    rcases hko with hh|hh
    ·have e1:l1=g:=by simpa [Value.ownBlock] using hh
     intro e
     exact n3 (List.mem_filterMap.2 ⟨z.2,List.mem_of_getElem? hi.2,by rw [e3];simp [Value.ownBlock];omega⟩)
    ·omega
 ·rintro X e w' hX ⟨hb,⟨_,rfl⟩|⟨_,b1,tc1,zs1,p1,pc1,g,c,rfl,_⟩⟩
  ·exact ⟨hb,_,_,_,_,_,_,_,_,_,_,_,_,_,_,_,_,_,_,rfl⟩
  ·exact ⟨hb,_,_,_,_,_,_,_,_,_,_,_,_,_,_,_,_,_,_,rfl⟩
 ·intro hneg w' hb
  have hth:¬There (zs.map (·.1)) s:=fun ht=>by obtain ⟨i,k,e,_⟩:=find_ge ht;omega
  exact ⟨Tn.of hb,.inl ⟨2,_,_,.inr ⟨rfl,rfl,.inr (.inr (.inl ⟨rfl,.inl ⟨hth,rfl⟩⟩))⟩,rfl⟩⟩
 ·rintro h0 X e w' w'' hX hz ⟨hb,hQ⟩ ht
  have hth:There (zs.map (·.1)) s:=Classical.byContradiction fun hn=>by have:=find_lt hn;omega
  have hB:=below_past hX hb ht
  rcases hQ with ⟨hfull,rfl⟩|⟨⟨hl2,hg2⟩,b1,tc1,zs1,p1,pc1,g,c,rfl,hm,hk,hrs,hpi,hle,hb1g,hp1g,hzg⟩
  ·exact ⟨Tn.of hB,.inl ⟨4,_,_,.inr ⟨rfl,rfl,.inr (.inr (.inl ⟨rfl,.inr ⟨hth,hfull,rfl⟩⟩))⟩,rfl⟩⟩
  ·have hk2:=own_past1 hk ht (by omega)
   have hp2:=own_past1 hpi ht (by omega)
   have hl3:=own_past1 hle ht (by omega)
   have hzr:ZRow w'' b1 0 zs1:=ZRow.own hk2 (fun z hz=>by
    obtain ⟨g',c',e',ho⟩:=hrs z hz
    rw [e'] at ho
    exact ⟨⟨g',0,none⟩,c',e',SRow.own (own_past1 ho ht (by omega))⟩)
   refine ⟨Tn.of hB,.inr ⟨⟨⟨#[]⟩,given+1,now,given+1,births,zs.map (·.1),ps,ls++[⟨given+1,s,now+num⟩]⟩,b1,some ⟨b1,0,none⟩,tc1,zs1,some ⟨p1,0,none⟩,pc1,some ⟨g,0,none⟩,c,.inr (.inr (.inr (.inl ⟨rfl,hth,hl2,hg2,rfl⟩))),by simp,hm,⟨.inl rfl,hzr,(own_lt hk2 rfl).2,hp2.mono (Nat.le_trans h.lb hX.size),?_,Nat.le_trans h.lb hB.size,by simp [Value.ownBlock];exact hb1g,fun q hq e=> ?_,fun z hz a n c e1 _ e=> ?_,.inr (Nat.le_trans (Nat.le_trans h.lb hX.size) (own_lt hk2 rfl).1),fun z hz a n c e1 _=> ?_⟩⟩⟩
   ·have h4:w''.ownsRow X.heap.size 137 3 (.slice (some ⟨g,0,none⟩) (ls++[(⟨given+1,s,now+num⟩:Ld)]).length c) (ls++[(⟨given+1,s,now+num⟩:Ld)]).length (rowC lC (ls++[(⟨given+1,s,now+num⟩:Ld)])):=by
     rw [List.length_append] at hl3 ⊢
     exact hl3
    exact h4.mono (Nat.le_trans h.lb hX.size)
   ·have e1:p1=q:=by simpa [Value.ownBlock] using hq
    have e2:g=q:=by simpa [Value.ownBlock] using e
    exact hp1g (e1.trans e2.symm)
   ·have e2:a.block=g:=by simpa [Value.ownBlock] using e
    exact hzg z hz a n c e1 e2
   ·obtain ⟨g',c',e',ho'⟩:=hrs z hz
    rw [e'] at e1
    cases e1
    have q1:=(own_lt ho' (g:=g') (by rw [e'];rfl)).1
    have q2:=h.lb
    have q3:=hX.size
    show base<=g'
    omega
theorem l4Apply7 (h:CT w base b ta pa la pc lc zs ps ls) (ha:AOk wd now given births (zs.map (·.1)) ps ls 7 num text refs):
 Calls Tryz.prog 42 #[.agg #[.int .i64 wd,.int .i64 now,.int .i64 given,.int .i64 births,.slice ta zs.length tc,.slice pa ps.length pc,.slice la ls.length lc],.agg #[.int .i64 7,.string s,.string nm,.int .i64 num,.string text,.slice ra refs.length rc]] w (SAt base (.slice la ls.length lc) wd now given births (zs.map (·.1)) ps ls 7 s nm num text refs w):=by
 have hkl:(zs.map (·.1)).length<=600:=ha.kso.len
 have hzl:zs.length<=600:=by rwa [List.length_map] at hkl
 by_cases hth:There (zs.map (·.1)) s
 ·obtain rfl:ta=some ⟨b,0,none⟩:=h.tb.resolve_right (fun e=>by obtain ⟨u,hu,_⟩:=hth;rw [e] at hu;simp at hu)
  refine l4Apply_drop wd now given births (some ⟨b,0,none⟩) pa la zs.length tc ps.length pc ls.length lc s nm text num ra refs.length rc w [] (fun X e w'=>Dropped X w' e wd now given births (.slice pa ps.length pc) (.slice la ls.length lc) zs ps ls s) _ (by simp) (fun X hX _=>l4Drop_any wd now given births b 0 tc pc lc pa la zs ps ls s X (h.below hX).z (h.below hX).bl (h.below hX).prow (h.below hX).lrow hzl ha.np ha.nl (fun z hz=>(ha.kso.refs z.1 (List.mem_map.2 ⟨z,hz,rfl⟩)).1) hth) ?_ ?_
  ·rintro X e w' ⟨hb,⟨_,rfl⟩|⟨_,g,c,rfl,_⟩⟩
   ·exact ⟨Tn.of hb,_,_,_,_,_,_,_,_,_,_,_,_,_,_,_,_,_,_,rfl⟩
   ·exact ⟨Tn.of hb,_,_,_,_,_,_,_,_,_,_,_,_,_,_,_,_,_,_,rfl⟩
  ·rintro X e w' w'' hX hz ⟨hb,⟨huse,rfl⟩|⟨hfree,g,c,rfl,hzr,hg1,hg2⟩⟩ ht
   ·exact ⟨Tn.of (below_past hX hb ht),.inl ⟨6,_,_,.inr ⟨rfl,rfl,.inr (.inr (.inr (.inr (.inr ⟨rfl,.inr ⟨hth,huse,rfl⟩⟩))))⟩,rfl⟩⟩
   ·have hB:=below_past hX hb ht
    have hc:=h.below hB
    have hz2:ZRow w'' g 0 (dropZ zs s):=hzr.turn ht hg2 (by simp;omega) (fun z hz a n c e2 e3 hin=>by
     simp at hin
     have:=h.z.refs_lt (List.mem_filter.1 hz).1 e2 e3
     omega)
    exact ⟨Tn.of hB,.inr ⟨⟨⟨#[]⟩,0,now,given,births,dropK (zs.map (·.1)) s,ps,ls⟩,g,_,c,dropZ zs s,pa,pc,la,lc,.inr (.inr (.inr (.inr (.inr (.inr ⟨rfl,hth,hfree,rfl⟩))))),by simp [←dropZ_map],dropZ_map zs s,⟨.inl rfl,hz2,Nat.lt_of_lt_of_le hg2 ht.size,hc.po,hc.lo,hc.lb,fun e=>by have h1:=h.lts.2.1 g e.symm;have h2:=hX.size;omega,hc.pL,fun z hz=>hc.zL z (List.mem_filter.1 hz).1,.inr (by have h1:=h.lb;have h2:=hX.size;omega),fun z hz=>hc.zr z (List.mem_filter.1 hz).1⟩⟩⟩
 ·refine l4Apply_drop wd now given births ta pa la zs.length tc ps.length pc ls.length lc s nm text num ra refs.length rc w [] (fun X e w'=>e=.returned (.agg (refC 2 ⟨#[]⟩ ⟨#[]⟩).toArray)/\Below X.heap.size X w') _ (by simp) (fun X hX _=> ?_) ?_ ?_
  ·have h1:=l4Drop_missing wd now given births ta pa la tc ps.length pc ls.length lc (zs.map (·.1)) s X (h.below hX).krow (by omega) hth
   rw [List.length_map] at h1
   exact h1
  ·rintro X e w' ⟨rfl,hb⟩
   exact ⟨Tn.of hb,_,_,_,_,_,_,_,_,_,_,_,_,_,_,_,_,_,_,rfl⟩
  ·rintro X e w' w'' hX hz ⟨rfl,hb⟩ ht
   exact ⟨Tn.of (below_past hX hb ht),.inl ⟨2,_,_,.inr ⟨rfl,rfl,.inr (.inr (.inr (.inr (.inr ⟨rfl,.inl ⟨hth,rfl⟩⟩))))⟩,rfl⟩⟩
theorem l4Apply1 (h:CT w base b ta pa la pc lc zs ps ls) (ha:AOk wd now given births (zs.map (·.1)) ps ls 1 num text refs) (hr:SRow w w.heap.size ra refs) (hrn:ra=none->refs.length=0/\rc=0):
 Calls Tryz.prog 42 #[.agg #[.int .i64 wd,.int .i64 now,.int .i64 given,.int .i64 births,.slice ta zs.length tc,.slice pa ps.length pc,.slice la ls.length lc],.agg #[.int .i64 1,.string s,.string nm,.int .i64 num,.string text,.slice ra refs.length rc]] w (SAt base (.slice la ls.length lc) wd now given births (zs.map (·.1)) ps ls 1 s nm num text refs w):=by
 refine l4Apply_put wd now given births ta pa la zs.length tc ps.length pc ls.length lc s nm text num ra refs.length rc w (Value.slice la ls.length lc).ownBlock.toList (fun X e w'=>PutS base b wd now given births num zs (.slice pa ps.length pc) (.slice la ls.length lc) ls text refs X e w') _ (fun q hq=>h.lts.2.1 q (by simpa using hq)) (fun X hX _=>l4Put_any base wd now given births 1 num ta b tc zs pa la ps.length pc lc ls s nm text refs ra rc X ⟨h.tb,hrn,(h.below hX).z,(h.below hX).bl,own_below h.lo hX,Nat.le_trans h.lb hX.size,h.bL,h.zL,SRow.mono (SRow.below hr hX) hX.size,ha.kso,ha.w1,fun z hz=>ha.txt z.1 (List.mem_map.2 ⟨z,hz,rfl⟩),ha.txl,ha.rfn,ha.births0,ha.births1,ha.given0,ha.given1,ha.now0,ha.now1,ha.num0,ha.num1,ha.nl⟩) ?_ ?_
 ·rintro X e w' ⟨ht,⟨c,a,b',_,rfl⟩|⟨ks1,births1,g,gc,zs1,g2,c2,_,_,_,_,rfl,_⟩⟩
  ·exact ⟨ht,_,_,_,_,_,_,_,_,_,_,_,_,_,_,_,_,_,_,rfl⟩
  ·exact ⟨ht,_,_,_,_,_,_,_,_,_,_,_,_,_,_,_,_,_,_,rfl⟩
 ·rintro X e w' w'' hX hz ⟨ht1,hQ⟩ ht
  have ht1':Tn (Value.slice la ls.length lc).ownBlock.toList X w':=ht1
  have hB:Tn (Value.slice la ls.length lc).ownBlock.toList w w'':=Tn.fresh ((Tn.of hX).trans ht1') ht (by omega)
  rcases hQ with ⟨c,a,b',hno,rfl⟩|⟨ks1,births1,g,gc,zs1,g2,c2,hall,hyes,hl2,hg2,rfl,hm,hzr,hgl,hgo,hzo,hko,ho,hgg,hzg⟩
  ·exact ⟨hB,.inl ⟨c,a,b',.inl ⟨rfl,hno⟩,rfl⟩⟩
  ·have hg3:g≠w.heap.size+2:=by have:=h.bl;rcases hgo with ⟨e,_⟩|e<;>omega
   have hz2:ZRow w'' g 0 zs1:=hzr.turn ht hgl (by simp;exact hg3) (fun z hz a n c e2 e3 hin=>by
    simp at hin
    rcases hzo z hz with hz'|⟨ad',n',rc',e',hlt⟩
    ·have:=h.z.refs_lt hz' e2 e3
     omega
    ·rw [e2] at e'
     cases e'
     omega)
   have hg4:g2≠w.heap.size+2:=by
    rcases hko with e|e
    ·have:=h.lts.2.1 g2 e
     omega
    ·omega
   have hl3:=own_past2 ho ht (by intro q hq;have:g2=q:=by simpa [Value.ownBlock] using hq
                                 omega)
   have hp1:=own_below h.po hX
   have hp2:=own_past2 (own_same hp1 (w':=w') (fun q hq=>ht1'.block q (own_lt hp1 hq).2 (fun e=>h.pL q hq (by simpa using e)))) ht (by intro q hq;have:=h.lts.1 q hq;omega)
   have hXw:=hX.size
   have h4:w''.ownsRow base 137 3 (.slice (some ⟨g2,0,none⟩) (ls++[(⟨given+1,sumT text refs wd,now+num⟩:Ld)]).length c2) (ls++[(⟨given+1,sumT text refs wd,now+num⟩:Ld)]).length (rowC lC (ls++[(⟨given+1,sumT text refs wd,now+num⟩:Ld)])):=by
    rw [List.length_append] at hl3 ⊢
    exact hl3
   refine ⟨hB,.inr ⟨⟨sumT text refs wd,given+1,now,given+1,births1,ks1,ps,ls++[⟨given+1,sumT text refs wd,now+num⟩]⟩,g,_,gc,zs1,pa,pc,_,c2,.inl ⟨rfl,hall,hl2,hg2,ks1,births1,hyes,rfl⟩,by simp [←hm],hm,⟨.inl rfl,hz2,Nat.lt_of_lt_of_le hgl ht.size,hp2,h4,Nat.le_trans h.lb hB.size,by simp [Value.ownBlock];exact hgg,fun q hq e=> ?_,fun z hz a n c e1 e2 e=> ?_,?_,fun z hz a n c e1 e2=> ?_⟩⟩⟩
   ·have e1:g2=q:=by simpa [Value.ownBlock] using e
    have:=h.lts.1 q hq
    rcases hko with hk|hk
    ·exact h.pL q hq (by rw [hk,e1])
    ·omega
   ·have e3:a.block=g2:=by simpa [Value.ownBlock] using e
    exact hzg z hz a n c e1 e2 e3
   ·rcases hgo with ⟨e1,e2⟩|e1
    ·rw [e1,e2]
     exact h.zb
    ·exact .inr (by have:=h.lb;omega)
   ·rcases hzo z hz with hz'|⟨ad',n',rc',e',hlt⟩
    ·exact h.zr z hz' a n c e1 e2
    ·rw [e1] at e'
     cases e'
     have:=h.lb
     omega
theorem l4Apply_opt (kd:Int) (h:CT w base b ta pa la pc lc zs ps ls) (ha:AOk wd now given births (zs.map (·.1)) ps ls kd num text refs) (h30:∀k∈zs.map (·.1),k.refs.length<=30) (hr:SRow w w.heap.size ra refs) (hrn:ra=none->refs.length=0/\rc=0):
 Calls Tryz.prog 42 #[.agg #[.int .i64 wd,.int .i64 now,.int .i64 given,.int .i64 births,.slice ta zs.length tc,.slice pa ps.length pc,.slice la ls.length lc],.agg #[.int .i64 kd,.string s,.string nm,.int .i64 num,.string text,.slice ra refs.length rc]] w (SAt base (.slice la ls.length lc) wd now given births (zs.map (·.1)) ps ls kd s nm num text refs w):=by
 obtain rfl|rfl|rfl|rfl|rfl|rfl|rfl:kd=1∨kd=2∨kd=3∨kd=4∨kd=5∨kd=6∨kd=7:=by have:=ha.kd1;have:=ha.kd7;omega
 ·exact l4Apply1 base wd now given births b ta pa la tc pc lc zs ps ls s nm text num refs ra rc w h ha hr hrn
 ·exact l4Apply2 base wd now given births b ta pa la tc pc lc zs ps ls s nm text num refs ra rc w h ha
 ·exact l4Apply3 base wd now given births b ta pa la tc pc lc zs ps ls s nm text num refs ra rc w h ha
 ·exact l4Apply4 base wd now given births b ta pa la tc pc lc zs ps ls s nm text num refs ra rc w h ha h30
 ·exact l4Apply5 base wd now given births b ta pa la tc pc lc zs ps ls s nm text num refs ra rc w h ha
 ·exact l4Apply6 base wd now given births b ta pa la tc pc lc zs ps ls s nm text num refs ra rc w h ha
 ·exact l4Apply7 base wd now given births b ta pa la tc pc lc zs ps ls s nm text num refs ra rc w h ha
end
end Go.Proofs.YtpekbmegopfhfaaGreatDoor
namespace Go.Proofs.YtpekbmegopfhfaaGreatDoor
open Go.RowKit
def notRow:Obj->Bool
 |.cells _ t _=> !(t==9||t==139||t==134||t==137)
 |_=>true
structure KeepsB (B:Nat) (W W':World):Prop where
 size:W.heap.size<=W'.heap.size
 same:∀b o,B<=b->W.heap[b]?=some o->notRow o=true->W'.heap[b]?=some o
theorem KeepsB.refl (B:Nat) (W:World):KeepsB B W W:=⟨Nat.le_refl _,fun _ _ _ h _=>h⟩
theorem KeepsB.trans {B:Nat} {X Y Z:World} (h:KeepsB B X Y) (k:KeepsB B Y Z):KeepsB B X Z:=⟨Nat.le_trans h.size k.size,fun b o hb hx ho=>k.same b o hb (h.same b o hb hx ho) ho⟩
theorem KeepsB.mono {B B':Nat} {W W':World} (h:KeepsB B W W') (hB:B<=B'):KeepsB B' W W':=⟨h.size,fun b o hb=>h.same b o (by omega)⟩
def Stable (B:Nat) (J:Nat->World->Prop):Prop:=
 ∀k W W' row,J k W->W.grownBy W' row->(∀r,row=some r->B<=r/\∃o,W.heap[r]?=some o/\notRow o=true)->J k W'
theorem Stable.mono {B B':Nat} {J:Nat->World->Prop} (h:Stable B J) (hB:B<=B'):Stable B' J:=
 fun k W W' row hj hg hr=>h k W W' row hj hg (fun r e=>⟨Nat.le_trans hB (hr r e).1,(hr r e).2⟩)
theorem Stable.putObj {B:Nat} {J:Nat->World->Prop} (h:Stable B J) {k:Nat} {W:World} {l:Nat} {o:Obj} (o':Obj) (hj:J k W) (hB:B<=l) (hl:W.heap[l]?=some o) (ho:notRow o=true):J k (W.putObj l o'):=
 h k W _ (some l) hj (grownBy_putObj' W l o') (fun r e=>by cases e;exact ⟨hB,o,hl,ho⟩)
theorem Stable.alloc {B:Nat} {J:Nat->World->Prop} (h:Stable B J) {k:Nat} {W:World} (o:Obj) (hj:J k W):J k (W.alloc o):=
 h k W _ none hj ⟨rfl,rfl,rfl,by simp,fun i hi _=>Below.heap_alloc W o i hi⟩ (fun r e=>by cases e)
def IterOk (P:Program) (gf:Nat) (ar:Nat->Array Value) (xs:List ByteArray) (n0:Nat) (w:World):Prop:=
 ∀(l:Nat) (J Jx:Nat->World->Prop) (W:World),Below w.heap.size w W->Stable W.heap.size J->Stable W.heap.size Jx->
  (∀k W1 s,xs[k]?=some s->J k W1->W.heap.size<=W1.heap.size->∀m,YieldAt Fence.wide m P l #[.string s] W1 fun e W'=>
    KeepsB W.heap.size W1 W'/\((e=.returned (.bool true)/\J (k+1) W'/\Below n0 W1 W')∨(e=.returned (.bool false)/\Jx (k+1) W')))->
  J 0 W->∀m,CallsIn Fence.wide m P gf (ar l) W fun e W'=>(∃v,e=.returned v)/\(J xs.length W'∨∃k,Jx k W')
def roundQ (n0 B:Nat) (I:Nat->World->Prop) (Ix:Nat->World->Prop) (k:Nat) (W:World):Exit->Act->World->Prop
 |.normal,_,W'=>KeepsB B W W'/\I (k+1) W'/\Below n0 W W'
 |.ret,_,W'=>KeepsB B W W'/\Ix (k+1) W'
 |_,_,_=>False
theorem wp_range {P:Program} {n:Nat} {g:Operand} {ps:Array Tmp} {assign body:Code} {Q:Exit->Act->World->Prop} {a:Act} {w:World}
 {gf:Nat} {pre lb:Array Value} (hg:a.eval g=.func (.func gf) pre lb) (eg:∀args w,(callFunc gf args).run P w=.ok (.enter gf args) w)
 {xs:List ByteArray} {n0:Nat} (hseq:IterOk P gf (fun l=>pre++ #[.func (.yield l) #[] #[]]++lb) xs n0 w) (hn0:n0<=w.heap.size) (hps:ps.size=1)
 (I Ix:Nat->World->Prop) (hI:Stable w.heap.size I) (hIx:Stable w.heap.size Ix) (h0:I 0 w) (a1:ByteArray->Act)
 (hassign:∀(l m:Nat) (s:ByteArray) (W:World) (K:Act->World->Prop),K (a1 s) W->
   assign.wpIn (Fence.wide.inRound l) m P (Exit.then K (fun _ _ _=>False)) {tmps:=(ps.zip #[.string s]).foldl (fun t (p,v)=>t.setIfInBounds p v) a.tmps,defers:=[]} W)
 (hbody:∀(l m k:Nat) (s:ByteArray) (W:World),xs[k]?=some s->I k W->w.heap.size+2<=W.heap.size->body.wpIn (Fence.wide.inRound l) m P (roundQ n0 w.heap.size I Ix k W) (a1 s) W)
 (hdone:∀(D:Nat) (W:World),w.heap.size<=D->I xs.length W->W.heap[D]?=some (.deferred (some []))->Q .normal {a with defers:={target:=.collected D,args:= #[]}::a.defers} W)
 (hstop:∀(D k:Nat) (W:World),w.heap.size<=D->Ix k W->W.heap[D]?=some (.deferred (some []))->Code.ret.wpIn Fence.wide n P Q {a with defers:={target:=.collected D,args:= #[]}::a.defers} W):
 (Code.rangeFunc g ps assign body).wpIn Fence.wide n P Q a w:=by
 refine wpIn_rangeFunc ?_
 intro fn hfn
 obtain ⟨rec,hrec⟩:∃rec:LoopState->Option Code->Loop,rec=fun st pe=>{state:=st,pending:=pe,fn,tmps:=a.tmps,params:=ps,assign,body,defers:=w.heap.size}:=⟨_,rfl⟩
 obtain ⟨V,hV⟩:∃V,V=(w.alloc (.deferred (some []))).alloc (.loop (rec .ready none)):=⟨_,rfl⟩
 have hVs:V.heap.size=w.heap.size+2:=by rw [hV];simp
 have hVl:V.heap[w.heap.size+1]?=some (.loop (rec .ready none)):=by
  have:=World.alloc_heap_new (w.alloc (.deferred (some []))) (.loop (rec .ready none))
  rw [World.size_alloc] at this
  rw [hV];exact this
 have hVd:V.heap[w.heap.size]?=some (.deferred (some [])):=by
  rw [hV];exact (Below.heap_alloc _ _ _ (by simp)).trans (World.alloc_heap_new w _)
 have hVb:Below w.heap.size w V:=by
  rw [hV];exact ((Below.refl _ w).alloc (Nat.le_refl _) _).alloc (by simp) _
 have hVI:I 0 V:=by rw [hV];exact hI.alloc _ (hI.alloc _ h0)
 refine ⟨w.heap.size+1,[{target:=.collected w.heap.size,args:= #[]}],V,{target:=.fn (.func gf) lb,args:=pre++ #[.func (.yield (w.heap.size+1)) #[] #[]]},V,gf,
  pre++ #[.func (.yield (w.heap.size+1)) #[] #[]]++lb,V,?_,?_,fun _ _=>trivial,?_,fun h=>by simp [Fence.wide] at h,?_⟩
 ·rw [hV,hrec];exact run_enterLoop_outer _ _ _ _ _
 ·simp only [resolve,hg]
  simp [go_sem]
 ·simp [invoke,go_sem,eg]
 ·have hnr:∀{A:World} {row:Option Nat},(∀r,row=some r->V.heap.size<=r/\∃o:Obj,A.heap[r]?=some o/\notRow o=true)->(∀r,row=some r->w.heap.size<=r/\∃o:Obj,A.heap[r]?=some o/\notRow o=true):=
   fun hr r e=>⟨by have:=(hr r e).1;omega,(hr r e).2⟩
  have hkeep:∀{A B:World} {row:Option Nat} {k:Nat} {o:Obj},A.grownBy B row->(∀r,row=some r->V.heap.size<=r/\∃o:Obj,A.heap[r]?=some o/\notRow o=true)->k<V.heap.size->A.heap[k]?=some o->B.heap[k]?=some o:=
   fun {A B row k o} hg' hr hk ho=>(hg'.block k (Array.getElem?_eq_some_iff.1 ho).1 (fun e=>by have:=(hr k e.symm).1;omega)).trans ho
  refine (hseq (w.heap.size+1)
   (fun k W=>I k W/\W.heap[w.heap.size+1]?=some (.loop (rec .ready none))/\W.heap[w.heap.size]?=some (.deferred (some [])))
   (fun k W=>Ix k W/\W.heap[w.heap.size+1]?=some (.loop (rec .done (some .ret)))/\W.heap[w.heap.size]?=some (.deferred (some [])))
   V hVb
   (fun s A B row hs hg' hr=>⟨hI s A B row hs.1 hg' (hnr hr),hkeep hg' hr (by omega) hs.2.1,hkeep hg' hr (by omega) hs.2.2⟩)
   (fun s A B row hs hg' hr=>⟨hIx s A B row hs.1 hg' (hnr hr),hkeep hg' hr (by omega) hs.2.1,hkeep hg' hr (by omega) hs.2.2⟩)
   ?_ ⟨hVI,hVl,hVd⟩ _).mono ?_
  ·rintro k W s hxs ⟨hi,hl,hk⟩ hVW m
   have hlt:w.heap.size+1<W.heap.size:=(Array.getElem?_eq_some_iff.1 hl).1
   have hy:=run_yield (P:=P) (args:= #[.string s]) hl (by rw [hrec];exact hps.symm)
   rw [hrec] at hy
   refine ⟨fn,_,assign,body,hy,roundIn_of_wpIn hfn (hassign _ _ s W _ ?_)⟩
   clear hy
   refine ⟨_,run_beginRound hl (by rw [hrec]),?_⟩
   have hl2:(W.putObj (w.heap.size+1) (.loop {rec .ready none with state:=.busy})).heap[w.heap.size+1]?=some (.loop {rec .ready none with state:=.busy}):=World.putObj_heap_same hlt
   have hk2:(W.putObj (w.heap.size+1) (.loop {rec .ready none with state:=.busy})).heap[w.heap.size]?=some (.deferred (some [])):=(World.putObj_heap_other (by omega)).trans hk
   refine wpIn_mono (hbody _ _ k s _ hxs (hI.putObj _ hi (by omega) hl rfl) (by rw [World.putObj_size];omega)) ?_
   have fin:∀(jump:Option Code) (W3:World),KeepsB w.heap.size (W.putObj (w.heap.size+1) (.loop {rec .ready none with state:=.busy})) W3->
    (Instr.endRound (w.heap.size+1) jump).run P W3=.ok (.bool jump.isNone) (W3.putObj (w.heap.size+1) (.loop (rec (if jump.isNone then .ready else .done) jump)))/\
    W3.heap[w.heap.size+1]?=some (.loop {rec .ready none with state:=.busy})/\
    (W3.putObj (w.heap.size+1) (.loop (rec (if jump.isNone then .ready else .done) jump))).heap[w.heap.size+1]?=some (.loop (rec (if jump.isNone then .ready else .done) jump))/\
    (W3.putObj (w.heap.size+1) (.loop (rec (if jump.isNone then .ready else .done) jump))).heap[w.heap.size]?=some (.deferred (some []))/\
    KeepsB V.heap.size W (W3.putObj (w.heap.size+1) (.loop (rec (if jump.isNone then .ready else .done) jump))):=fun jump W3 hk3=>by
    have hl3:=hk3.same _ _ (by omega) hl2 rfl
    have:=run_endRound (P:=P) jump hl3
    have hK5:KeepsB V.heap.size W (W3.putObj (w.heap.size+1) (.loop (rec (if jump.isNone then .ready else .done) jump))):=by
     refine ⟨by have:=hk3.size;rw [World.putObj_size] at this ⊢;exact this,fun b o hb ho hn=> ?_⟩
     rw [World.putObj_heap_other (by omega)]
     exact hk3.same b o (by omega) ((World.putObj_heap_other (by omega)).trans ho) hn
    refine ⟨?_,hl3,World.putObj_heap_same (Array.getElem?_eq_some_iff.1 hl3).1,(World.putObj_heap_other (by omega)).trans (hk3.same _ _ (Nat.le_refl _) hk2 rfl),hK5⟩
    rw [hrec] at this ⊢;exact this
   rintro e a3 W3 hp
   have hb1:∀o,Below n0 W (W.putObj (w.heap.size+1) o):=fun o=>⟨rfl,rfl,rfl,by simp,fun i hi=>World.putObj_heap_other (by omega)⟩
   cases e with
   |normal=>
    obtain ⟨hk3,hi3,hbl⟩:=hp
    obtain ⟨hr,hl3,hl4,hk4,hk5⟩:=fin none W3 hk3
    exact ⟨_,_,hr,hk5,.inl ⟨rfl,⟨hI.putObj _ hi3 (by omega) hl3 rfl,hl4,hk4⟩,((hb1 _).trans hbl).trans ⟨rfl,rfl,rfl,by simp,fun i hi=>World.putObj_heap_other (by omega)⟩⟩⟩
   |ret=>
    obtain ⟨hk3,hi3⟩:=hp
    obtain ⟨hr,hl3,hl4,hk4,hk5⟩:=fin (some .ret) W3 hk3
    exact ⟨_,_,hr,hk5,.inr ⟨rfl,hIx.putObj _ hi3 (by omega) hl3 rfl,hl4,hk4⟩⟩
   |exit id=>exact hp.elim
   |goto t=>exact hp.elim
   |panic ch=>exact hp.elim
   |outgrown=>exact hp.elim
  ·rintro e W2 ⟨⟨v,rfl⟩,(⟨hi,hl,hk⟩|⟨k,hi,hl,hk⟩)⟩
   ·exact ⟨none,_,by have:=run_endLoop (P:=P) hl (by rw [hrec];simp);rw [hrec] at this;exact this,hdone _ _ (Nat.le_refl _) (hI.putObj _ hi (by omega) hl rfl) ((World.putObj_heap_other (by omega)).trans hk)⟩
   ·exact ⟨some .ret,_,by have:=run_endLoop (P:=P) hl (by rw [hrec];simp);rw [hrec] at this;exact this,hstop _ k _ (Nat.le_refl _) (hIx.putObj _ hi (by omega) hl rfl) ((World.putObj_heap_other (by omega)).trans hk)⟩
end Go.Proofs.YtpekbmegopfhfaaGreatDoor
namespace Go.Proofs.YtpekbmegopfhfaaGreatDoor
open Go.RowKit
attribute [local go_sem] Oper.semAt_some
set_option maxRecDepth 100000 in
set_option maxHeartbeats 2000000 in
theorem kept_iter (a:Option Addr) (cap:Nat) (ss:List ByteArray) (n0:Nat) (w:World) (hrow:SRow w n0 a ss) (hn0:n0<=w.heap.size) (hl:ss.length<=maxLen):
 IterOk Tryz.prog 109 (fun l=> #[.agg #[.slice a ss.length cap],.func (.yield l) #[] #[]]) ss n0 w:=by
 intro l J Jx W hW hJ hJx hY h0 m
 unfold maxLen at hl
 have hrow':=hrow.below (hW.mono hn0)
 refine callsIn_of_wp Tryz.func109 rfl trivial ?_ rfl
 simp only [Tryz.ntmps109,List.size_toArray,List.length_cons,List.length_nil,Nat.reduceAdd,Nat.reduceSub,Array.replicate_succ,Array.replicate_zero,List.push_toArray,List.append_toArray,List.nil_append,List.cons_append]
 gi_wp2
 gi_loopw [9] (fun i wr=>∃k:Nat,k<=ss.length/\i=.int .i64 k/\J k wr/\Below n0 W wr/\W.heap.size<=wr.heap.size)
  (fun i _=>ss.length -(intOf i).toNat)
 case atStart=>exact ⟨0,Nat.zero_le _,rfl,hJ.alloc _ h0,(Below.refl _ _).alloc (Nat.le_trans hn0 hW.size) _,by simp⟩
 case round=>
  obtain ⟨k,hk,rfl,hJs,hnx,hsz⟩:=hrel
  by_cases hlt:k<ss.length
  ·obtain ⟨b,off,ha,hb,hc⟩:=(hrow'.below hnx).at hlt
   subst ha
   have hck:=hc k ss[k] (List.getElem?_eq_getElem hlt)
   obtain ⟨fn,tmps,assign,body,hy,hR⟩:=hY k wr ss[k] (List.getElem?_eq_getElem hlt) hJs hsz (m -1)
   clear hc hrow hrow' hY
   generalize ss[k]=s at *
   gi_wp2
   refine ⟨fun h=>by simp [Fence.wide] at h,hR.mono ?_⟩
   rintro e W3 ⟨hK,(⟨rfl,hJ3,hk3⟩|⟨rfl,hJx3⟩)⟩
   ·gi_wp2
    go_roundw
    case rel=>exact ⟨k+1,by omega,by simp,hJ3,hnx.trans hk3,Nat.le_trans hsz hK.size⟩
    case measure=>simp [intOf];omega
   ·gi_wp2
    refine bodyPost_ret (results_none rfl _ _ _) rfl ?_
    exact ⟨⟨_,rfl⟩,.inr ⟨_,hJx3⟩⟩
  ·obtain rfl:k=ss.length:=by omega
   gi_wp2
   go_end0
   exact ⟨⟨_,rfl⟩,.inl hJs⟩
set_option maxRecDepth 100000 in
set_option maxHeartbeats 2000000 in
theorem open_iter (v:Value) (a:Option Addr) (cap:Nat) (ss:List ByteArray) (n0:Nat) (w:World) (hrow:SRow w n0 a ss) (hn0:n0<=w.heap.size) (hl:ss.length<=maxLen):
 IterOk Tryz.prog 110 (fun l=> #[.agg #[v,.slice a ss.length cap],.func (.yield l) #[] #[]]) ss n0 w:=by
 intro l J Jx W hW hJ hJx hY h0 m
 unfold maxLen at hl
 have hrow':=hrow.below (hW.mono hn0)
 refine callsIn_of_wp Tryz.func110 rfl trivial ?_ rfl
 simp only [Tryz.ntmps110,List.size_toArray,List.length_cons,List.length_nil,Nat.reduceAdd,Nat.reduceSub,Array.replicate_succ,Array.replicate_zero,List.push_toArray,List.append_toArray,List.nil_append,List.cons_append]
 gi_wp2
 gi_loopw [9] (fun i wr=>∃k:Nat,k<=ss.length/\i=.int .i64 k/\J k wr/\Below n0 W wr/\W.heap.size<=wr.heap.size)
  (fun i _=>ss.length -(intOf i).toNat)
 case atStart=>exact ⟨0,Nat.zero_le _,rfl,hJ.alloc _ h0,(Below.refl _ _).alloc (Nat.le_trans hn0 hW.size) _,by simp⟩
 case round=>
  obtain ⟨k,hk,rfl,hJs,hnx,hsz⟩:=hrel
  by_cases hlt:k<ss.length
  ·obtain ⟨b,off,ha,hb,hc⟩:=(hrow'.below hnx).at hlt
   subst ha
   have hck:=hc k ss[k] (List.getElem?_eq_getElem hlt)
   obtain ⟨fn,tmps,assign,body,hy,hR⟩:=hY k wr ss[k] (List.getElem?_eq_getElem hlt) hJs hsz (m -1)
   clear hc hrow hrow' hY
   generalize ss[k]=s at *
   gi_wp2
   refine ⟨fun h=>by simp [Fence.wide] at h,hR.mono ?_⟩
   rintro e W3 ⟨hK,(⟨rfl,hJ3,hk3⟩|⟨rfl,hJx3⟩)⟩
   ·gi_wp2
    go_roundw
    case rel=>exact ⟨k+1,by omega,by simp,hJ3,hnx.trans hk3,Nat.le_trans hsz hK.size⟩
    case measure=>simp [intOf];omega
   ·gi_wp2
    refine bodyPost_ret (results_none rfl _ _ _) rfl ?_
    exact ⟨⟨_,rfl⟩,.inr ⟨_,hJx3⟩⟩
  ·obtain rfl:k=ss.length:=by omega
   gi_wp2
   go_end0
   exact ⟨⟨_,rfl⟩,.inl hJs⟩
end Go.Proofs.YtpekbmegopfhfaaGreatDoor
