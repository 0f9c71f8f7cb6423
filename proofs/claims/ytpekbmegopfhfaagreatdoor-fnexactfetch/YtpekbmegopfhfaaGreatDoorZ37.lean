import Derived.Test.YtpekbmegopfhfaaGreatDoorZ36
import Derived.Test.YtpekbmegopfhfaaGreatDoorZ18
import Derived.Test.YtpekbmegopfhfaaGreatDoorZ32
set_option maxRecDepth 100000
set_option maxHeartbeats 16000000
namespace Go.Proofs.YtpekbmegopfhfaaGreatDoor
open Go.ChangeShapes Go.WideShapes Go.ChangeAt Go.RowKit _root_.Go.Proofs.Tryz
section
structure CT (w:World) (base b:Nat) (ta pa la:Option Addr) (pc lc:Nat) (zs:List (Kd×Value)) (ps:List Pd) (ls:List Ld):Prop where
 tb:ta=some ⟨b,0,none⟩∨zs=[]
 z:ZRow w b 0 zs
 bl:b<w.heap.size
 po:w.ownsRow base 134 2 (.slice pa ps.length pc) ps.length (rowC pC ps)
 lo:w.ownsRow base 137 3 (.slice la ls.length lc) ls.length (rowC lC ls)
 lb:base<=w.heap.size
 bL:some b≠(Value.slice la ls.length lc).ownBlock
 pL:∀g,(Value.slice pa ps.length pc).ownBlock=some g->(Value.slice la ls.length lc).ownBlock≠some g
 zL:∀z∈zs,∀ad n rc,z.2=.slice (some ad) n rc->z.1.refs≠[]->some ad.block≠(Value.slice la ls.length lc).ownBlock
 zb:zs=[]∨base<=b
 zr:∀z∈zs,∀ad n rc,z.2=.slice (some ad) n rc->z.1.refs≠[]->base<=ad.block
def SAt (base:Nat) (L:Value) (wd now given births:Int) (ks:List Kd) (ps:List Pd) (ls:List Ld) (kd:Int) (s nm:ByteArray) (num:Int) (text:ByteArray) (refs:List ByteArray) (w:World) (e:Ending) (w':World):Prop:=
 Tn L.ownBlock.toList w w'/\(
  (∃c a b,ANo wd now given births ks ps ls kd s nm num text refs c a b/\e=.returned (.agg (refC c a b).toArray))∨
  (∃r b1 ta1 tc1 zs1 pa1 pc1 la1 lc1,AYes wd now given births ks ps ls kd s nm num text refs r/\e=.returned (.agg #[.int .i64 0,.int .i64 wd,.int .i64 r.now,.int .i64 r.given,.int .i64 r.births,.slice ta1 r.ks.length tc1,.slice pa1 r.ps.length pc1,.slice la1 r.ls.length lc1,.string r.sm,.int .i64 r.le,.string ⟨#[]⟩,.string ⟨#[]⟩])/\zs1.map (·.1)=r.ks/\CT w' base b1 ta1 pa1 la1 pc1 lc1 zs1 r.ps r.ls))
section
variable {w w':World} {base b:Nat} {ta pa la:Option Addr} {pc lc:Nat} {zs:List (Kd×Value)} {ps:List Pd} {ls:List Ld}
theorem CT.below (h:CT w base b ta pa la pc lc zs ps ls) (hb:Below w.heap.size w w'):CT w' base b ta pa la pc lc zs ps ls:=
 ⟨h.tb,h.z.below hb h.bl,Nat.lt_of_lt_of_le h.bl hb.size,own_below h.po hb,own_below h.lo hb,Nat.le_trans h.lb hb.size,h.bL,h.pL,h.zL,h.zb,h.zr⟩
theorem CT.krow (h:CT w base b ta pa la pc lc zs ps ls):KRow w w.heap.size ta (zs.map (·.1)):=by
 rcases h.tb with e|e
 ·rw[e]
  exact h.z.krow h.bl
 ·rw[e]
  exact .inl rfl
theorem CT.prow (h:CT w base b ta pa la pc lc zs ps ls):PRow w w.heap.size pa ps:=PRow.own h.po
theorem CT.lrow (h:CT w base b ta pa la pc lc zs ps ls):LRow w w.heap.size la ls:=LRow.own h.lo
theorem CT.withP (h:CT w base b ta pa la pc lc zs ps ls) {n g c:Nat} {ps':List Pd} (ho:w.ownsRow n 134 2 (.slice (some ⟨g,0,none⟩) ps'.length c) ps'.length (rowC pC ps')) (hn:base<=n) (hl:∀q,(Value.slice la ls.length lc).ownBlock=some q->q<n):CT w base b ta (some ⟨g,0,none⟩) la c lc zs ps' ls:=
 ⟨h.tb,h.z,h.bl,ho.mono hn,h.lo,h.lb,h.bL,fun q hq hL=>by have h1:=(own_lt ho hq).1;have h2:=hl q hL;omega,h.zL,h.zb,h.zr⟩
theorem CT.withL (h:CT w base b ta pa la pc lc zs ps ls) {n g c:Nat} {ls':List Ld} (ho:w.ownsRow n 137 3 (.slice (some ⟨g,0,none⟩) ls'.length c) ls'.length (rowC lC ls')) (hn:base<=n) (hb:b<n) (hp:∀q,(Value.slice pa ps.length pc).ownBlock=some q->q<n) (hz:∀z∈zs,∀ad m rc,z.2=.slice (some ad) m rc->z.1.refs≠[]->ad.block<n):CT w base b ta pa (some ⟨g,0,none⟩) pc c zs ps ls':=by
 have hg:n<=g:=(own_lt ho (g:=g) rfl).1;refine⟨h.tb,h.z,h.bl,h.po,ho.mono hn,h.lb,fun e=> ?_,fun q hq e=> ?_,fun z hz' ad m rc e1 e2 e=> ?_,h.zb,h.zr⟩
 ·have:b=g:=by simpa [Value.ownBlock] using e
  omega
 ·have h1:g=q:=by simpa [Value.ownBlock] using e
  have:=hp q hq;omega
 ·have h1:ad.block=g:=by simpa [Value.ownBlock] using e
  have:=hz z hz' ad m rc e1 e2;omega
theorem CT.lts (h:CT w base b ta pa la pc lc zs ps ls):(∀q,(Value.slice pa ps.length pc).ownBlock=some q->q<w.heap.size)/\(∀q,(Value.slice la ls.length lc).ownBlock=some q->q<w.heap.size)/\∀z∈zs,∀ad m rc,z.2=.slice (some ad) m rc->z.1.refs≠[]->ad.block<w.heap.size:=
 ⟨fun _ hq=>(own_lt h.po hq).2,fun _ hq=>(own_lt h.lo hq).2,fun _ hz _ _ _ e1 e2=>h.z.refs_lt hz e1 e2⟩
theorem own_cap {w:World} {base:Nat} {e:TypeId} {size:Nat} {a:Option Addr} {m c n:Nat} {xs:List Value} (h:w.ownsRow base e size (.slice a m c) n xs) (ha:a=none):c=0:=by
 rcases h.2 with⟨hv,_⟩|⟨g,cap,cur,hv,_⟩
 ·injection hv
 ·injection hv with e1
  rw[ha] at e1;cases e1
end
theorem own_past1 {w w':World} {base:Nat} {e:TypeId} {size:Nat} {v:Value} {n:Nat} {xs:List Value} (h:w.ownsRow base e size v n xs) {q:Nat} (ht:Tn [q] w w') (hq:q<base):w'.ownsRow base e size v n xs:=
 own_same h (fun g hg=>ht.block g (own_lt h hg).2 (by have:=(own_lt h hg).1;simp;omega))
theorem own_past2 {w w':World} {base:Nat} {e:TypeId} {size:Nat} {v:Value} {n:Nat} {xs:List Value} (h:w.ownsRow base e size v n xs) {q:Nat} (ht:Tn [q] w w') (hq:∀g,v.ownBlock=some g->g≠q):w'.ownsRow base e size v n xs:=
 own_same h (fun g hg=>ht.block g (own_lt h hg).2 (by simp;exact hq g hg))
theorem below_past {w X w' w'':World} (hX:Below w.heap.size w X) (h1:Below X.heap.size X w') (h2:Tn [w.heap.size+2] w' w''):Below w.heap.size w w'':=
 (hX.trans (h1.mono hX.size)).trans (h2.below (Nat.le_trans hX.size h1.size) (by intro v hv;simp at hv;omega))
theorem l4Pin_missing (wd now given births kd num:Int) (ta pa la ra:Option Addr) (tc pn pc ln lc rn rc:Nat) (ks:List Kd) (s nm text:ByteArray) (w:World) (hks:KRow w w.heap.size ta ks) (hkl:ks.length<=1000) (hth:¬There ks s):
 Calls prog 86 #[.agg #[.int .i64 wd,.int .i64 now,.int .i64 given,.int .i64 births,.slice ta ks.length tc,.slice pa pn pc,.slice la ln lc],.agg #[.int .i64 kd,.string s,.string nm,.int .i64 num,.string text,.slice ra rn rc]] w fun e w'=>e=.returned (.agg (refC 2 ⟨#[]⟩ ⟨#[]⟩).toArray)/\Below w.heap.size w w':=by
 obtain⟨W,hW⟩:∃W,W=((w.alloc (.cells #[.int .i64 wd,.int .i64 now,.int .i64 given,.int .i64 births,.slice ta ks.length tc,.slice pa pn pc,.slice la ln lc] 28)).alloc (.cells #[.int .i64 kd,.string s,.string nm,.int .i64 num,.string text,.slice ra rn rc] 77)).alloc (.cells #[.int .i64 0,.int .i64 0,.int .i64 0,.int .i64 0,.int .i64 0,.slice none 0 0,.slice none 0 0,.slice none 0 0,.string ⟨#[]⟩,.int .i64 0,.string ⟨#[]⟩,.string ⟨#[]⟩] 30):=⟨_,rfl⟩
 have bW:=(al3 hW).1;have x0:=(al3 hW).2.2.1;have xe:CellsAt W (w.heap.size+1) [.int .i64 kd,.string s,.string nm,.int .i64 num,.string text,.slice ra rn rc]:=by
  have h1:=CellsAt.new (w.alloc (.cells #[.int .i64 wd,.int .i64 now,.int .i64 given,.int .i64 births,.slice ta ks.length tc,.slice pa pn pc,.slice la ln lc] 28)) [.int .i64 kd,.string s,.string nm,.int .i64 num,.string text,.slice ra rn rc] 77;rw[World.size_alloc] at h1;rw[hW];exact CellsAt.below h1 ((Below.refl _ _).alloc (Nat.le_refl _) _)
 have x1:CellsAt W (w.heap.size+2) z12:=by
  have h1:=CellsAt.new ((w.alloc (.cells #[.int .i64 wd,.int .i64 now,.int .i64 given,.int .i64 births,.slice ta ks.length tc,.slice pa pn pc,.slice la ln lc] 28)).alloc (.cells #[.int .i64 kd,.string s,.string nm,.int .i64 num,.string text,.slice ra rn rc] 77)) z12 30;rw[World.size_alloc,World.size_alloc] at h1;rw[hW];exact h1
 have HF:Hid _:=find_any wd now given births ta tc (.slice pa pn pc) (.slice la ln lc) ks s W w.heap.size (KRow.below hks bW) bW.size (by omega);have hfl:=find_lt hth;have HW:Hid _:=hW;have HX1:Hid (CellsAt W (w.heap.size+2) z12):=x1;obtain⟨v0,v1,v2,v3,v4,v5,v6,v7⟩:=sbox_of x0;obtain⟨u1,_⟩:=xe 1 _ rfl;clear hW x0 x1 xe hks hth;go_enter func86,ntmps86;go_upto_region 1 with fail;rw[←HW.out];clear HW
 go_wp2_with fail;refine Calls.mono HF.out ?_;rintro e w1 ⟨rfl,hb1⟩;obtain⟨⟨y0,q0⟩,⟨y1,q1⟩,⟨y2,q2⟩,⟨y3,q3⟩,⟨y4,q4⟩,⟨y5,q5⟩,⟨y6,q6⟩,⟨y7,q7⟩,⟨y8,q8⟩,⟨y9,q9⟩,⟨y10,q10⟩,y11,q11⟩:=z12at (CellsAt.below (v:=.int .i64 0) HX1.out hb1);have hB:Below w.heap.size w w1:=bW.trans (hb1.mono bW.size);generalize findI ks s=fi at *
 clear v0 v1 v2 v3 v4 v5 v6 v7 HF u1;go_wp2;refine bodyPost_ret (v:=.agg (refC 2 ⟨#[]⟩ ⟨#[]⟩).toArray) (by simp[results,results86,go_sem,y0,y1,y2,y3,y4,y5,y6,y7,y8,y9,y10,y11,refC]) rfl ?_;exact⟨rfl,hB.trans (Tn.below (tn12 w1 (w.heap.size+2) _ _ _ _ _ _ _ _ _ _ _ _) hB.size (by intro v hv;simp at hv;omega))⟩
theorem pinP_len_no {ps:List Pd} {n:ByteArray} (s:ByteArray) (h:¬∃x∈ps,x.name=n):(pinP ps n s).length=ps.length+1:=by
 have h2:∀(l:List Pd),(¬∃x∈l,x.name=n)->(l.filter (fun x=>less x.name n)).length+(l.filter (fun x=> !(less x.name n)&& !decide (x.name=n))).length=l.length:=by
  intro l;induction l with
  |nil=>intro _;rfl
  |cons x l ih=>
   intro hl;have hn:x.name≠n:=fun e=>hl ⟨x,by simp,e⟩;have:=ih (fun⟨y,hy,e⟩=>hl ⟨y,by simp[hy],e⟩);cases hl:less x.name n<;>simp[hl,hn]<;>omega
 have:=h2 ps h;unfold pinP;rw[List.length_append,List.length_append];simp;omega
def LeaQ (wd now given births num:Int) (zs:List (Kd×Value)) (ps:List Pd) (ls:List Ld) (s:ByteArray) (X:World) (e:Ending) (w':World):Prop:=
 Below X.heap.size X w'/\(((ls.length=200∨given=1000000000)/\e=.returned (.agg (refC 4 ⟨#[]⟩ ⟨#[]⟩).toArray))∨
  ((ls.length<200/\given<1000000000)/\∃b1 tc1 zs1 p1 pc1 g c,e=.returned (.agg #[.int .i64 0,.int .i64 wd,.int .i64 now,.int .i64 (given+1),.int .i64 births,.slice (some ⟨b1,0,none⟩) zs.length tc1,.slice (some ⟨p1,0,none⟩) ps.length pc1,.slice (some ⟨g,0,none⟩) (ls.length+1) c,.string ⟨#[]⟩,.int .i64 (given+1),.string ⟨#[]⟩,.string ⟨#[]⟩])/\zs1.map (·.1)=zs.map (·.1)/\w'.ownsRow X.heap.size 114 4 (.slice (some ⟨b1,0,none⟩) zs1.length tc1) zs1.length (rowC kC zs1)/\(∀z∈zs1,∃g' c',z.2=.slice (some ⟨g',0,none⟩) z.1.refs.length c'/\w'.ownsRow X.heap.size 9 1 z.2 z.1.refs.length (z.1.refs.map Value.string))/\w'.ownsRow X.heap.size 134 2 (.slice (some ⟨p1,0,none⟩) ps.length pc1) ps.length (rowC pC ps)/\w'.ownsRow X.heap.size 137 3 (.slice (some ⟨g,0,none⟩) (ls.length+1) c) (ls++[(⟨given+1,s,now+num⟩:Ld)]).length (rowC lC (ls++[(⟨given+1,s,now+num⟩:Ld)]))/\b1≠g/\p1≠g/\∀z∈zs1,∀ad n rc,z.2=.slice (some ad) n rc->ad.block≠g))
theorem ZRow.some {w:World} {b off:Nat} {zs:List (Kd×Value)} (h:ZRow w b off zs):KSome w ⟨b,off,none⟩ (zs.map (·.1)):=by
 intro i k hk;rw[List.getElem?_map] at hk;obtain⟨z,hz,rfl⟩:=Option.map_eq_some_iff.1 hk;obtain⟨⟨_,_,_,h3⟩,ad,rc,h4,_⟩:=h i z hz;exact⟨ad,rc,by rw[h3,h4]⟩
theorem nd_apart {T P L:Option Nat} {R:List Nat} {l:Nat} (h:(T.toList++(P.toList++(L.toList++R))).Nodup) (hL:L=some l):T≠some l/\P≠some l/\l∉R:=by
 subst hL;cases T<;>cases P<;>simp_all<;>grind
section
variable (base:Nat) (wd now given births:Int) (b:Nat) (ta pa la:Option Addr) (tc pc lc:Nat) (zs:List (Kd×Value)) (ps:List Pd) (ls:List Ld) (s nm text:ByteArray) (num:Int) (refs:List ByteArray) (ra:Option Addr) (rc:Nat) (w:World)
theorem l4Apply3 (h:CT w base b ta pa la pc lc zs ps ls) (ha:AOk wd now given births (zs.map (·.1)) ps ls 3 num text refs):
 Calls prog 42 #[.agg #[.int .i64 wd,.int .i64 now,.int .i64 given,.int .i64 births,.slice ta zs.length tc,.slice pa ps.length pc,.slice la ls.length lc],.agg #[.int .i64 3,.string s,.string nm,.int .i64 num,.string text,.slice ra refs.length rc]] w (SAt base (.slice la ls.length lc) wd now given births (zs.map (·.1)) ps ls 3 s nm num text refs w):=by
 refine l4Apply_by 3 87 _ wd now given births ta pa la zs.length tc ps.length pc ls.length lc s nm text num ra refs.length rc w [] (fun X e w'=>UnpinTo X w' e wd now given births (.slice ta zs.length tc) (.slice la ls.length lc) ps nm) _ (.inr (.inr (.inl ⟨rfl,rfl,rfl⟩))) (by simp) (fun X hX _=>l4Unpin_any wd now given births ta la pa zs.length tc ls.length lc pc ps nm X (h.below hX).prow (by have:=ha.np;omega)) ?_ ?_
 ·rintro X e w' ⟨hb,⟨_,rfl⟩|⟨_,g,c,rfl,_⟩⟩
  ·exact⟨Tn.of hb,_,_,_,_,_,_,_,_,_,_,_,_,_,_,_,_,_,_,rfl⟩
  ·exact⟨Tn.of hb,_,_,_,_,_,_,_,_,_,_,_,_,_,_,_,_,_,_,rfl⟩
 ·rintro X e w' w'' hX hz ⟨hb,⟨hno,rfl⟩|⟨hyes,g,c,rfl,ho⟩⟩ ht
  ·exact⟨Tn.of (below_past hX hb ht),.inl ⟨5,_,_,.inr ⟨rfl,rfl,.inr (.inl ⟨rfl,hno,rfl⟩)⟩,rfl⟩⟩
  ·have hB:=below_past hX hb ht
   have hc:=h.below hB;have ho2:=own_past1 ho ht (by omega);exact⟨Tn.of hB,.inr ⟨⟨⟨#[]⟩,0,now,given,births,zs.map (·.1),unpinP ps nm,ls⟩,b,ta,tc,zs,_,c,la,lc,.inr (.inr (.inl ⟨rfl,hyes,rfl⟩)),by rw[List.length_map],rfl,hc.withP ho2 (Nat.le_trans h.lb hX.size) (fun q hq=>Nat.lt_of_lt_of_le (h.lts.2.1 q hq) hX.size)⟩⟩
theorem l4Apply5 (h:CT w base b ta pa la pc lc zs ps ls) (ha:AOk wd now given births (zs.map (·.1)) ps ls 5 num text refs):
 Calls prog 42 #[.agg #[.int .i64 wd,.int .i64 now,.int .i64 given,.int .i64 births,.slice ta zs.length tc,.slice pa ps.length pc,.slice la ls.length lc],.agg #[.int .i64 5,.string s,.string nm,.int .i64 num,.string text,.slice ra refs.length rc]] w (SAt base (.slice la ls.length lc) wd now given births (zs.map (·.1)) ps ls 5 s nm num text refs w):=by
 refine l4Apply_by 5 89 _ wd now given births ta pa la zs.length tc ps.length pc ls.length lc s nm text num ra refs.length rc w [] (fun X e w'=>GiveTo X w' e wd now given births (.slice ta zs.length tc) (.slice pa ps.length pc) ls num) _ (.inr (.inr (.inr (.inl ⟨rfl,rfl,rfl⟩)))) (by simp) (fun X hX _=>l4Give_any wd now given births ta pa la zs.length tc ps.length pc lc ls num X (h.below hX).lrow (by have:=ha.nl;omega)) ?_ ?_
 ·rintro X e w' ⟨hb,⟨_,rfl⟩|⟨_,g,c,rfl,_⟩⟩
  ·exact⟨Tn.of hb,_,_,_,_,_,_,_,_,_,_,_,_,_,_,_,_,_,_,rfl⟩
  ·exact⟨Tn.of hb,_,_,_,_,_,_,_,_,_,_,_,_,_,_,_,_,_,_,rfl⟩
 ·rintro X e w' w'' hX hz ⟨hb,⟨hno,rfl⟩|⟨hyes,g,c,rfl,ho⟩⟩ ht
  ·exact⟨Tn.of (below_past hX hb ht),.inl ⟨5,_,_,.inr ⟨rfl,rfl,.inr (.inr (.inr (.inl ⟨rfl,hno,rfl⟩)))⟩,rfl⟩⟩
  ·have hB:=below_past hX hb ht
   have hc:=h.below hB;have ho2:=own_past1 ho ht (by omega)
   exact⟨Tn.of hB,.inr ⟨⟨⟨#[]⟩,0,now,given,births,zs.map (·.1),ps,giveL ls num⟩,b,ta,tc,zs,pa,pc,_,c,.inr (.inr (.inr (.inr (.inl ⟨rfl,hyes,rfl⟩)))),by rw[List.length_map],rfl,hc.withL ho2 (Nat.le_trans h.lb hX.size) (Nat.lt_of_lt_of_le h.bl hX.size) (fun q hq=>Nat.lt_of_lt_of_le (h.lts.1 q hq) hX.size) (fun z hz a n c e1 e2=>Nat.lt_of_lt_of_le (h.lts.2.2 z hz a n c e1 e2) hX.size)⟩⟩
theorem l4Apply6 (h:CT w base b ta pa la pc lc zs ps ls) (ha:AOk wd now given births (zs.map (·.1)) ps ls 6 num text refs):
 Calls prog 42 #[.agg #[.int .i64 wd,.int .i64 now,.int .i64 given,.int .i64 births,.slice ta zs.length tc,.slice pa ps.length pc,.slice la ls.length lc],.agg #[.int .i64 6,.string s,.string nm,.int .i64 num,.string text,.slice ra refs.length rc]] w (SAt base (.slice la ls.length lc) wd now given births (zs.map (·.1)) ps ls 6 s nm num text refs w):=by
 refine l4Apply_by 6 90 _ wd now given births ta pa la zs.length tc ps.length pc ls.length lc s nm text num ra refs.length rc w [] (fun X e w'=>WaitTo X w' e wd now given births (.slice ta zs.length tc) (.slice pa ps.length pc) ls num) _ (.inr (.inr (.inr (.inr (.inl ⟨rfl,rfl,rfl⟩))))) (by simp) (fun X hX _=>l4Wait_any wd now given births ta pa la zs.length tc ps.length pc lc ls num X (h.below hX).lrow (by have:=ha.nl;omega) ha.now0 ha.now1 ha.num0 ha.num1) ?_ ?_
 ·rintro X e w' ⟨hb,⟨_,rfl⟩|⟨_,g,c,rfl,_⟩⟩
  ·exact⟨Tn.of hb,_,_,_,_,_,_,_,_,_,_,_,_,_,_,_,_,_,_,rfl⟩
  ·exact⟨Tn.of hb,_,_,_,_,_,_,_,_,_,_,_,_,_,_,_,_,_,_,rfl⟩
 ·rintro X e w' w'' hX hz ⟨hb,⟨hno,rfl⟩|⟨hyes,g,c,rfl,ho⟩⟩ ht
  ·exact⟨Tn.of (below_past hX hb ht),.inl ⟨4,_,_,.inr ⟨rfl,rfl,.inr (.inr (.inr (.inr (.inl ⟨rfl,hno,rfl⟩))))⟩,rfl⟩⟩
  ·have hB:=below_past hX hb ht
   have hc:=h.below hB;have ho2:=own_past1 ho ht (by omega)
   exact⟨Tn.of hB,.inr ⟨⟨⟨#[]⟩,0,now+num,given,births,zs.map (·.1),ps,waitL ls (now+num)⟩,b,ta,tc,zs,pa,pc,_,c,.inr (.inr (.inr (.inr (.inr (.inl ⟨rfl,hyes,rfl⟩))))),by rw[List.length_map],rfl,hc.withL ho2 (Nat.le_trans h.lb hX.size) (Nat.lt_of_lt_of_le h.bl hX.size) (fun q hq=>Nat.lt_of_lt_of_le (h.lts.1 q hq) hX.size) (fun z hz a n c e1 e2=>Nat.lt_of_lt_of_le (h.lts.2.2 z hz a n c e1 e2) hX.size)⟩⟩
theorem l4Apply2 (h:CT w base b ta pa la pc lc zs ps ls) (ha:AOk wd now given births (zs.map (·.1)) ps ls 2 num text refs):
 Calls prog 42 #[.agg #[.int .i64 wd,.int .i64 now,.int .i64 given,.int .i64 births,.slice ta zs.length tc,.slice pa ps.length pc,.slice la ls.length lc],.agg #[.int .i64 2,.string s,.string nm,.int .i64 num,.string text,.slice ra refs.length rc]] w (SAt base (.slice la ls.length lc) wd now given births (zs.map (·.1)) ps ls 2 s nm num text refs w):=by
 have hkl:(zs.map (·.1)).length<=1000:=by have:=ha.kso.len;omega
 by_cases hth:There (zs.map (·.1)) s
 ·refine l4Apply_by 2 86 _ wd now given births ta pa la zs.length tc ps.length pc ls.length lc s nm text num ra refs.length rc w [] (fun X e w'=>PinTo X w' e wd now given births (.slice ta zs.length tc) (.slice la ls.length lc) ps nm s) _ (.inr (.inl ⟨rfl,rfl,rfl⟩)) (by simp) (fun X hX _=> ?_) ?_ ?_
  ·have h1:=l4Pin_any wd now given births 2 num ta pa la ra tc pc lc ls.length refs.length rc (zs.map (·.1)) ps nm s text X (h.below hX).krow (h.below hX).prow hkl (by have:=ha.np;omega) hth ha.psort
   rw[List.length_map] at h1;exact h1
  ·rintro X e w' ⟨hb,⟨_,rfl⟩|⟨_,g,c,rfl,_⟩⟩
   ·exact⟨Tn.of hb,_,_,_,_,_,_,_,_,_,_,_,_,_,_,_,_,_,_,rfl⟩
   ·exact⟨Tn.of hb,_,_,_,_,_,_,_,_,_,_,_,_,_,_,_,_,_,_,rfl⟩
  ·rintro X e w' w'' hX hz ⟨hb,⟨hno,rfl⟩|⟨hyes,g,c,rfl,ho⟩⟩ ht
   ·have hl:=pinP_length ps nm s
    have hnx:¬∃x∈ps,x.name=nm:=fun hx=>by have:=hl.2 hx;have:=ha.np;omega
    exact⟨Tn.of (below_past hX hb ht),.inl ⟨4,_,_,.inr ⟨rfl,rfl,.inl ⟨rfl,.inr ⟨hth,hnx,by have:=hl.1;have:=ha.np;omega,rfl⟩⟩⟩,rfl⟩⟩
   ·have hB:=below_past hX hb ht
    have hc:=h.below hB;have ho2:=own_past1 ho ht (by omega);have hroom:(∃x∈ps,x.name=nm)∨ps.length<100:=by
     by_cases hx:∃x∈ps,x.name=nm
     ·exact .inl hx
     ·have:=pinP_len_no s hx
      exact .inr (by omega)
    exact⟨Tn.of hB,.inr ⟨⟨⟨#[]⟩,0,now,given,births,zs.map (·.1),pinP ps nm s,ls⟩,b,ta,tc,zs,_,c,la,lc,.inr (.inl ⟨rfl,hth,hroom,rfl⟩),by rw[List.length_map],rfl,hc.withP ho2 (Nat.le_trans h.lb hX.size) (fun q hq=>Nat.lt_of_lt_of_le (h.lts.2.1 q hq) hX.size)⟩⟩
 ·refine l4Apply_by 2 86 _ wd now given births ta pa la zs.length tc ps.length pc ls.length lc s nm text num ra refs.length rc w [] (fun X e w'=>e=.returned (.agg (refC 2 ⟨#[]⟩ ⟨#[]⟩).toArray)/\Below X.heap.size X w') _ (.inr (.inl ⟨rfl,rfl,rfl⟩)) (by simp) (fun X hX _=> ?_) ?_ ?_
  ·have h1:=l4Pin_missing wd now given births 2 num ta pa la ra tc ps.length pc ls.length lc refs.length rc (zs.map (·.1)) s nm text X (h.below hX).krow hkl hth
   rw[List.length_map] at h1;exact h1
  ·rintro X e w' ⟨rfl,hb⟩
   exact⟨Tn.of hb,_,_,_,_,_,_,_,_,_,_,_,_,_,_,_,_,_,_,rfl⟩
  ·rintro X e w' w'' hX hz ⟨rfl,hb⟩ ht
   exact⟨Tn.of (below_past hX hb ht),.inl ⟨2,_,_,.inr ⟨rfl,rfl,.inl ⟨rfl,.inl ⟨hth,rfl⟩⟩⟩,rfl⟩⟩
theorem l4Apply4 (h:CT w base b ta pa la pc lc zs ps ls) (ha:AOk wd now given births (zs.map (·.1)) ps ls 4 num text refs) (h30:∀k∈zs.map (·.1),k.refs.length<=30):
 Calls prog 42 #[.agg #[.int .i64 wd,.int .i64 now,.int .i64 given,.int .i64 births,.slice ta zs.length tc,.slice pa ps.length pc,.slice la ls.length lc],.agg #[.int .i64 4,.string s,.string nm,.int .i64 num,.string text,.slice ra refs.length rc]] w (SAt base (.slice la ls.length lc) wd now given births (zs.map (·.1)) ps ls 4 s nm num text refs w):=by
 have hkl:(zs.map (·.1)).length<=600:=ha.kso.len;refine l4Apply_lease wd now given births ta pa la zs.length tc ps.length pc ls.length lc s nm text num ra refs.length rc w (findI (zs.map (·.1)) s) (LeaQ wd now given births num zs ps ls s) _ (fun X hX=> ?_) (fun h0 X hX hz=> ?_) ?_ ?_ ?_
 ·have h1:=find_any wd now given births ta tc (.slice pa ps.length pc) (.slice la ls.length lc) (zs.map (·.1)) s X X.heap.size (h.below hX).krow (Nat.le_refl _) (by omega)
  rw[List.length_map] at h1;exact h1
 ·have hcx:=h.below hX
  have h1:=l4Copy_opt wd now given births ta pa la tc pc lc (zs.map (·.1)) ps ls X ⟨hcx.krow,hcx.prow,hcx.lrow⟩ (fun A hA=>by
   rcases hcx.tb with e|e
   ·rw[e] at hA
    cases hA;exact hcx.z.some
   ·rw[e]
    intro i k hk;simp at hk) (own_cap hcx.po) (own_cap hcx.lo) hkl ha.np ha.nl h30
  rw[List.length_map] at h1;refine h1.mono ?_;rintro e w' ⟨T,P',L',rs,rfl,hS,hv,hb⟩;obtain⟨b1,n1,tc1,rfl⟩:=hv T (by simp);obtain⟨p1,n2,pc1,rfl⟩:=hv P' (by simp);obtain⟨l1,n3,lc1,rfl⟩:=hv L' (by simp);obtain⟨_,_,e1⟩:=own_val hS.things;obtain⟨_,_,e2⟩:=own_val hS.pins;obtain⟨_,_,e3⟩:=own_val hS.leases;cases e1;cases e2;cases e3;refine⟨⟨_,_,_,_,_,_,_,_,_,rfl,fun Y hY=> ?_⟩,hb⟩
  refine(l4Lease_any wd now given births (some ⟨b1,0,none⟩) (some ⟨p1,0,none⟩) (some ⟨l1,0,none⟩) _ tc1 ps.length pc1 lc1 X.heap.size ls s num Y (own_below hS.leases hY) (Nat.le_trans hb.size hY.size) (by have:=ha.nl;omega) ha.given0 ha.given1 ha.now0 ha.now1 ha.num0 ha.num1).mono ?_;rintro e w3 ⟨ht,hle⟩;have hlX:X.heap.size<=l1:=(own_lt hS.leases rfl).1
  have hB3:Below X.heap.size X w3:=(hb.trans (hY.mono hb.size)).trans (ht.below (Nat.le_trans hb.size hY.size) (by intro v hv;simp[Value.ownBlock] at hv;omega));refine⟨hB3,?_⟩;rcases hle with⟨hfull,rfl⟩|⟨⟨hl2,hg2⟩,g,c,rfl,ho,hko⟩
  ·exact .inl ⟨by have:=ha.nl;have:=ha.given1;omega,rfl⟩
  ·have hnd:=hS.nd
   rw[blks_eq] at hnd;unfold blks at hnd;obtain⟨n1,n2,n3⟩:=nd_apart hnd (l:=l1) rfl
   have hsame:∀{e:TypeId} {size:Nat} {v:Value} {n:Nat} {xs:List Value},w'.ownsRow X.heap.size e size v n xs->v.ownBlock≠some l1->w3.ownsRow X.heap.size e size v n xs:=fun {e size v n xs} ho1 hne=>own_same (own_below ho1 hY) (fun q hq=>ht.block q (own_lt (own_below ho1 hY) hq).2 (fun e=>by simp[Value.ownBlock] at e;exact hne (by rw[hq,e])))
   have hlen:((zs.map (·.1)).zip rs).length=zs.length:=by rw[List.length_zip,hS.len,List.length_map];omega
   refine .inr ⟨⟨hl2,hg2⟩,b1,tc1,(zs.map (·.1)).zip rs,p1,pc1,g,c,by simp,?_,?_,?_,hsame hS.pins n2,ho,?_,?_,?_⟩
   ·rw[List.map_fst_zip (by rw[hS.len];exact Nat.le_refl _)]
   ·have h2:=hsame hS.things n1
    rw[hlen];rw[List.length_map] at h2;exact h2
   ·intro z hz
    obtain⟨i,hi⟩:=List.getElem?_of_mem hz;rw[List.getElem?_zip_eq_some] at hi;have hr:=hS.refs i z.1 z.2 hi.1 hi.2;obtain⟨g',n',c',e'⟩:=hv z.2 (by simp;exact .inr (.inr (.inr (List.mem_of_getElem? hi.2))));obtain⟨a',c'',e''⟩:=own_val hr;rw[e'] at e'';cases e'';refine⟨g',c',e',hsame hr (fun e=>n3 ?_)⟩;exact List.mem_filterMap.2 ⟨z.2,List.mem_of_getElem? hi.2,e⟩
   ·have q1:=(own_lt hS.things (g:=b1) rfl).2
    have q2:=hY.size;rcases hko with hh|hh
    ·have e1:l1=g:=by simpa [Value.ownBlock] using hh
     intro e;exact n1 (by simp[Value.ownBlock];omega)
    ·omega
   ·have q1:=(own_lt hS.pins (g:=p1) rfl).2
    have q2:=hY.size;rcases hko with hh|hh
    ·have e1:l1=g:=by simpa [Value.ownBlock] using hh
     intro e;exact n2 (by simp[Value.ownBlock];omega)
    ·omega
   ·intro z hz a n' c' e2
    obtain⟨i,hi⟩:=List.getElem?_of_mem hz;rw[List.getElem?_zip_eq_some] at hi;have hr:=hS.refs i z.1 z.2 hi.1 hi.2;obtain⟨g',m',d',e3⟩:=hv z.2 (by simp;exact .inr (.inr (.inr (List.mem_of_getElem? hi.2))));rw[e3] at e2;cases e2;have q1:=(own_lt hr (g:=g') (by rw[e3];rfl)).2;have q2:=hY.size;show g'≠g;rcases hko with hh|hh
    ·have e1:l1=g:=by simpa [Value.ownBlock] using hh
     intro e;exact n3 (List.mem_filterMap.2 ⟨z.2,List.mem_of_getElem? hi.2,by rw[e3];simp[Value.ownBlock];omega⟩)
    ·omega
 ·rintro X e w' hX ⟨hb,⟨_,rfl⟩|⟨_,b1,tc1,zs1,p1,pc1,g,c,rfl,_⟩⟩
  ·exact⟨hb,_,_,_,_,_,_,_,_,_,_,_,_,_,_,_,_,_,_,rfl⟩
  ·exact⟨hb,_,_,_,_,_,_,_,_,_,_,_,_,_,_,_,_,_,_,rfl⟩
 ·intro hneg w' hb
  have hth:¬There (zs.map (·.1)) s:=fun ht=>by obtain⟨i,k,e,_⟩:=find_ge ht;omega
  exact⟨Tn.of hb,.inl ⟨2,_,_,.inr ⟨rfl,rfl,.inr (.inr (.inl ⟨rfl,.inl ⟨hth,rfl⟩⟩))⟩,rfl⟩⟩
 ·rintro h0 X e w' w'' hX hz ⟨hb,hQ⟩ ht
  have hth:There (zs.map (·.1)) s:=Classical.byContradiction fun hn=>by have:=find_lt hn;omega
  have hB:=below_past hX hb ht;rcases hQ with⟨hfull,rfl⟩|⟨⟨hl2,hg2⟩,b1,tc1,zs1,p1,pc1,g,c,rfl,hm,hk,hrs,hpi,hle,hb1g,hp1g,hzg⟩
  ·exact⟨Tn.of hB,.inl ⟨4,_,_,.inr ⟨rfl,rfl,.inr (.inr (.inl ⟨rfl,.inr ⟨hth,hfull,rfl⟩⟩))⟩,rfl⟩⟩
  ·have hk2:=own_past1 hk ht (by omega)
   have hp2:=own_past1 hpi ht (by omega);have hl3:=own_past1 hle ht (by omega);have hzr:ZRow w'' b1 0 zs1:=ZRow.own hk2 (fun z hz=>by
    obtain⟨g',c',e',ho⟩:=hrs z hz;rw[e'] at ho;exact⟨⟨g',0,none⟩,c',e',SRow.own (own_past1 ho ht (by omega))⟩)
   refine⟨Tn.of hB,.inr ⟨⟨⟨#[]⟩,given+1,now,given+1,births,zs.map (·.1),ps,ls++[⟨given+1,s,now+num⟩]⟩,b1,some ⟨b1,0,none⟩,tc1,zs1,some ⟨p1,0,none⟩,pc1,some ⟨g,0,none⟩,c,.inr (.inr (.inr (.inl ⟨rfl,hth,hl2,hg2,rfl⟩))),by simp,hm,⟨.inl rfl,hzr,(own_lt hk2 rfl).2,hp2.mono (Nat.le_trans h.lb hX.size),?_,Nat.le_trans h.lb hB.size,by simp[Value.ownBlock];exact hb1g,fun q hq e=> ?_,fun z hz a n c e1 _ e=> ?_,.inr (Nat.le_trans (Nat.le_trans h.lb hX.size) (own_lt hk2 rfl).1),fun z hz a n c e1 _=> ?_⟩⟩⟩
   ·have h4:w''.ownsRow X.heap.size 137 3 (.slice (some ⟨g,0,none⟩) (ls++[(⟨given+1,s,now+num⟩:Ld)]).length c) (ls++[(⟨given+1,s,now+num⟩:Ld)]).length (rowC lC (ls++[(⟨given+1,s,now+num⟩:Ld)])):=by
     rw[List.length_append] at hl3 ⊢;exact hl3
    exact h4.mono (Nat.le_trans h.lb hX.size)
   ·have e1:p1=q:=by simpa [Value.ownBlock] using hq
    have e2:g=q:=by simpa [Value.ownBlock] using e
    exact hp1g (e1.trans e2.symm)
   ·have e2:a.block=g:=by simpa [Value.ownBlock] using e
    exact hzg z hz a n c e1 e2
   ·obtain⟨g',c',e',ho'⟩:=hrs z hz
    rw[e'] at e1;cases e1;have q1:=(own_lt ho' (g:=g') (by rw[e'];rfl)).1;have q2:=h.lb;have q3:=hX.size;show base<=g';omega
theorem l4Apply7 (h:CT w base b ta pa la pc lc zs ps ls) (ha:AOk wd now given births (zs.map (·.1)) ps ls 7 num text refs):
 Calls prog 42 #[.agg #[.int .i64 wd,.int .i64 now,.int .i64 given,.int .i64 births,.slice ta zs.length tc,.slice pa ps.length pc,.slice la ls.length lc],.agg #[.int .i64 7,.string s,.string nm,.int .i64 num,.string text,.slice ra refs.length rc]] w (SAt base (.slice la ls.length lc) wd now given births (zs.map (·.1)) ps ls 7 s nm num text refs w):=by
 have hkl:(zs.map (·.1)).length<=600:=ha.kso.len;have hzl:zs.length<=600:=by rwa[List.length_map] at hkl
 by_cases hth:There (zs.map (·.1)) s
 ·obtain rfl:ta=some ⟨b,0,none⟩:=h.tb.resolve_right (fun e=>by obtain⟨u,hu,_⟩:=hth;rw[e] at hu;simp at hu)
  refine l4Apply_by 7 91 _ wd now given births (some ⟨b,0,none⟩) pa la zs.length tc ps.length pc ls.length lc s nm text num ra refs.length rc w [] (fun X e w'=>Dropped X w' e wd now given births (.slice pa ps.length pc) (.slice la ls.length lc) zs ps ls s) _ (.inr (.inr (.inr (.inr (.inr (⟨rfl,rfl,rfl⟩)))))) (by simp) (fun X hX _=>l4Drop_any wd now given births b 0 tc pc lc pa la zs ps ls s X (h.below hX).z (h.below hX).bl (h.below hX).prow (h.below hX).lrow hzl ha.np ha.nl (fun z hz=>(ha.kso.refs z.1 (List.mem_map.2 ⟨z,hz,rfl⟩)).1) hth) ?_ ?_
  ·rintro X e w' ⟨hb,⟨_,rfl⟩|⟨_,g,c,rfl,_⟩⟩
   ·exact⟨Tn.of hb,_,_,_,_,_,_,_,_,_,_,_,_,_,_,_,_,_,_,rfl⟩
   ·exact⟨Tn.of hb,_,_,_,_,_,_,_,_,_,_,_,_,_,_,_,_,_,_,rfl⟩
  ·rintro X e w' w'' hX hz ⟨hb,⟨huse,rfl⟩|⟨hfree,g,c,rfl,hzr,hg1,hg2⟩⟩ ht
   ·exact⟨Tn.of (below_past hX hb ht),.inl ⟨6,_,_,.inr ⟨rfl,rfl,.inr (.inr (.inr (.inr (.inr ⟨rfl,.inr ⟨hth,huse,rfl⟩⟩))))⟩,rfl⟩⟩
   ·have hB:=below_past hX hb ht
    have hc:=h.below hB;have hz2:ZRow w'' g 0 (dropZ zs s):=hzr.turn ht hg2 (by simp;omega) (fun z hz a n c e2 e3 hin=>by
     simp at hin;have:=h.z.refs_lt (List.mem_filter.1 hz).1 e2 e3;omega)
    exact⟨Tn.of hB,.inr ⟨⟨⟨#[]⟩,0,now,given,births,dropK (zs.map (·.1)) s,ps,ls⟩,g,_,c,dropZ zs s,pa,pc,la,lc,.inr (.inr (.inr (.inr (.inr (.inr ⟨rfl,hth,hfree,rfl⟩))))),by simp[←dropZ_map],dropZ_map zs s,⟨.inl rfl,hz2,Nat.lt_of_lt_of_le hg2 ht.size,hc.po,hc.lo,hc.lb,fun e=>by have h1:=h.lts.2.1 g e.symm;have h2:=hX.size;omega,hc.pL,fun z hz=>hc.zL z (List.mem_filter.1 hz).1,.inr (by have h1:=h.lb;have h2:=hX.size;omega),fun z hz=>hc.zr z (List.mem_filter.1 hz).1⟩⟩⟩
 ·refine l4Apply_by 7 91 _ wd now given births ta pa la zs.length tc ps.length pc ls.length lc s nm text num ra refs.length rc w [] (fun X e w'=>e=.returned (.agg (refC 2 ⟨#[]⟩ ⟨#[]⟩).toArray)/\Below X.heap.size X w') _ (.inr (.inr (.inr (.inr (.inr (⟨rfl,rfl,rfl⟩)))))) (by simp) (fun X hX _=> ?_) ?_ ?_
  ·have h1:=l4Drop_missing wd now given births ta pa la tc ps.length pc ls.length lc (zs.map (·.1)) s X (h.below hX).krow (by omega) hth
   rw[List.length_map] at h1;exact h1
  ·rintro X e w' ⟨rfl,hb⟩
   exact⟨Tn.of hb,_,_,_,_,_,_,_,_,_,_,_,_,_,_,_,_,_,_,rfl⟩
  ·rintro X e w' w'' hX hz ⟨rfl,hb⟩ ht
   exact⟨Tn.of (below_past hX hb ht),.inl ⟨2,_,_,.inr ⟨rfl,rfl,.inr (.inr (.inr (.inr (.inr ⟨rfl,.inl ⟨hth,rfl⟩⟩))))⟩,rfl⟩⟩
theorem l4Apply1 (h:CT w base b ta pa la pc lc zs ps ls) (ha:AOk wd now given births (zs.map (·.1)) ps ls 1 num text refs) (hr:SRow w w.heap.size ra refs) (hrn:ra=none->refs.length=0/\rc=0):
 Calls prog 42 #[.agg #[.int .i64 wd,.int .i64 now,.int .i64 given,.int .i64 births,.slice ta zs.length tc,.slice pa ps.length pc,.slice la ls.length lc],.agg #[.int .i64 1,.string s,.string nm,.int .i64 num,.string text,.slice ra refs.length rc]] w (SAt base (.slice la ls.length lc) wd now given births (zs.map (·.1)) ps ls 1 s nm num text refs w):=by
 refine l4Apply_by 1 85 _ wd now given births ta pa la zs.length tc ps.length pc ls.length lc s nm text num ra refs.length rc w (Value.slice la ls.length lc).ownBlock.toList (fun X e w'=>PutS base b wd now given births num zs (.slice pa ps.length pc) (.slice la ls.length lc) ls text refs X e w') _ (.inl ⟨rfl,rfl,rfl⟩) (fun q hq=>h.lts.2.1 q (by simpa using hq)) (fun X hX _=>l4Put_any base wd now given births 1 num ta b tc zs pa la ps.length pc lc ls s nm text refs ra rc X ⟨h.tb,hrn,(h.below hX).z,(h.below hX).bl,own_below h.lo hX,Nat.le_trans h.lb hX.size,h.bL,h.zL,SRow.mono (SRow.below hr hX) hX.size,ha.kso,ha.w1,fun z hz=>ha.txt z.1 (List.mem_map.2 ⟨z,hz,rfl⟩),ha.txl,ha.rfn,ha.births0,ha.births1,ha.given0,ha.given1,ha.now0,ha.now1,ha.num0,ha.num1,ha.nl⟩) ?_ ?_
 ·rintro X e w' ⟨ht,⟨c,a,b',_,rfl⟩|⟨ks1,births1,g,gc,zs1,g2,c2,_,_,_,_,rfl,_⟩⟩
  ·exact⟨ht,_,_,_,_,_,_,_,_,_,_,_,_,_,_,_,_,_,_,rfl⟩
  ·exact⟨ht,_,_,_,_,_,_,_,_,_,_,_,_,_,_,_,_,_,_,rfl⟩
 ·rintro X e w' w'' hX hz ⟨ht1,hQ⟩ ht
  have ht1':Tn (Value.slice la ls.length lc).ownBlock.toList X w':=ht1;have hB:Tn (Value.slice la ls.length lc).ownBlock.toList w w'':=Tn.fresh ((Tn.of hX).trans ht1') ht (by omega);rcases hQ with⟨c,a,b',hno,rfl⟩|⟨ks1,births1,g,gc,zs1,g2,c2,hall,hyes,hl2,hg2,rfl,hm,hzr,hgl,hgo,hzo,hko,ho,hgg,hzg⟩
  ·exact⟨hB,.inl ⟨c,a,b',.inl ⟨rfl,hno⟩,rfl⟩⟩
  ·have hg3:g≠w.heap.size+2:=by have:=h.bl;rcases hgo with⟨e,_⟩|e<;>omega
   have hz2:ZRow w'' g 0 zs1:=hzr.turn ht hgl (by simp;exact hg3) (fun z hz a n c e2 e3 hin=>by
    simp at hin;rcases hzo z hz with hz'|⟨ad',n',rc',e',hlt⟩
    ·have:=h.z.refs_lt hz' e2 e3
     omega
    ·rw[e2] at e'
     cases e';omega)
   have hg4:g2≠w.heap.size+2:=by
    rcases hko with e|e
    ·have:=h.lts.2.1 g2 e
     omega
    ·omega
   have hl3:=own_past2 ho ht (by intro q hq;have:g2=q:=by simpa [Value.ownBlock] using hq
                                 omega)
   have hp1:=own_below h.po hX;have hp2:=own_past2 (own_same hp1 (w':=w') (fun q hq=>ht1'.block q (own_lt hp1 hq).2 (fun e=>h.pL q hq (by simpa using e)))) ht (by intro q hq;have:=h.lts.1 q hq;omega);have hXw:=hX.size
   have h4:w''.ownsRow base 137 3 (.slice (some ⟨g2,0,none⟩) (ls++[(⟨given+1,sumT text refs wd,now+num⟩:Ld)]).length c2) (ls++[(⟨given+1,sumT text refs wd,now+num⟩:Ld)]).length (rowC lC (ls++[(⟨given+1,sumT text refs wd,now+num⟩:Ld)])):=by
    rw[List.length_append] at hl3 ⊢;exact hl3
   refine⟨hB,.inr ⟨⟨sumT text refs wd,given+1,now,given+1,births1,ks1,ps,ls++[⟨given+1,sumT text refs wd,now+num⟩]⟩,g,_,gc,zs1,pa,pc,_,c2,.inl ⟨rfl,hall,hl2,hg2,ks1,births1,hyes,rfl⟩,by simp[←hm],hm,⟨.inl rfl,hz2,Nat.lt_of_lt_of_le hgl ht.size,hp2,h4,Nat.le_trans h.lb hB.size,by simp[Value.ownBlock];exact hgg,fun q hq e=> ?_,fun z hz a n c e1 e2 e=> ?_,?_,fun z hz a n c e1 e2=> ?_⟩⟩⟩
   ·have e1:g2=q:=by simpa [Value.ownBlock] using e
    have:=h.lts.1 q hq;rcases hko with hk|hk
    ·exact h.pL q hq (by rw[hk,e1])
    ·omega
   ·have e3:a.block=g2:=by simpa [Value.ownBlock] using e
    exact hzg z hz a n c e1 e2 e3
   ·rcases hgo with⟨e1,e2⟩|e1
    ·rw[e1,e2]
     exact h.zb
    ·exact .inr (by have:=h.lb;omega)
   ·rcases hzo z hz with hz'|⟨ad',n',rc',e',hlt⟩
    ·exact h.zr z hz' a n c e1 e2
    ·rw[e1] at e'
     cases e';have:=h.lb;omega
theorem l4Apply_opt (kd:Int) (h:CT w base b ta pa la pc lc zs ps ls) (ha:AOk wd now given births (zs.map (·.1)) ps ls kd num text refs) (h30:∀k∈zs.map (·.1),k.refs.length<=30) (hr:SRow w w.heap.size ra refs) (hrn:ra=none->refs.length=0/\rc=0):
 Calls prog 42 #[.agg #[.int .i64 wd,.int .i64 now,.int .i64 given,.int .i64 births,.slice ta zs.length tc,.slice pa ps.length pc,.slice la ls.length lc],.agg #[.int .i64 kd,.string s,.string nm,.int .i64 num,.string text,.slice ra refs.length rc]] w (SAt base (.slice la ls.length lc) wd now given births (zs.map (·.1)) ps ls kd s nm num text refs w):=by
 obtain rfl|rfl|rfl|rfl|rfl|rfl|rfl:kd=1∨kd=2∨kd=3∨kd=4∨kd=5∨kd=6∨kd=7:=by have:=ha.kd1;have:=ha.kd7;omega
 ·exact l4Apply1 base wd now given births b ta pa la tc pc lc zs ps ls s nm text num refs ra rc w h ha hr hrn
 ·exact l4Apply2 base wd now given births b ta pa la tc pc lc zs ps ls s nm text num refs ra rc w h ha
 ·exact l4Apply3 base wd now given births b ta pa la tc pc lc zs ps ls s nm text num refs ra rc w h ha
 ·exact l4Apply4 base wd now given births b ta pa la tc pc lc zs ps ls s nm text num refs ra rc w h ha h30
 ·exact l4Apply5 base wd now given births b ta pa la tc pc lc zs ps ls s nm text num refs ra rc w h ha
 ·exact l4Apply6 base wd now given births b ta pa la tc pc lc zs ps ls s nm text num refs ra rc w h ha
 ·exact l4Apply7 base wd now given births b ta pa la tc pc lc zs ps ls s nm text num refs ra rc w h ha
end
end
theorem own_nilR {w:World} {base:Nat} {ra:Option Addr} {rc:Nat} {ss:List ByteArray} (h:w.ownsRow base 9 1 (.slice ra ss.length rc) ss.length (ss.map Value.string)):SRow w w.heap.size ra ss/\(ra=none->ss.length=0/\rc=0):=by
 rcases h.2 with⟨hv,h0⟩|⟨g,cap,cur,hv,_,_,hcap,_⟩
 ·injection hv with e1 e2 e3
  subst e1;exact⟨.inl (List.eq_nil_of_length_eq_zero h0),fun _=>⟨h0,e3⟩⟩
 ·cases hv
  exact⟨SRow.own h,fun e=>by cases e⟩
theorem CT.low {w w':World} {base b:Nat} {ta pa la:Option Addr} {pc lc:Nat} {zs:List (Kd×Value)} {ps:List Pd} {ls:List Ld} (h:CT w base b ta pa la pc lc zs ps ls) {V:List Nat} (ht:Tn V w w') (hV:∀q∈V,q<base):CT w' base b ta pa la pc lc zs ps ls:=by
 have ho:∀{e:TypeId} {size:Nat} {v:Value} {n:Nat} {xs:List Value},w.ownsRow base e size v n xs->w'.ownsRow base e size v n xs:=fun h=>own_same h (fun g hg=>ht.block g (own_lt h hg).2 (fun e=>by have h1:=hV g e;have h2:=(own_lt h hg).1;omega));refine⟨h.tb,?_,Nat.lt_of_lt_of_le h.bl ht.size,ho h.po,ho h.lo,Nat.le_trans h.lb ht.size,h.bL,h.pL,h.zL,h.zb,h.zr⟩;rcases h.zb with e|e
 ·rw[e]
  intro i z hz;simp at hz
 ·exact h.z.turn ht h.bl (fun hin=>by have:=hV b hin;omega) (fun z hz a n c e1 e2 hin=>by have h1:=hV _ hin;have h2:=h.zr z hz a n c e1 e2;omega)
theorem set7' {w:World} {b:Nat} {z0 z1 z2 z3 z4 z5 z6:Value} (h:CellsAt w b [z0,z1,z2,z3,z4,z5,z6]) (a0 a1 a2 a3 a4 a5 a6:Value):CellsAt (((((((w.setCell ⟨b,0,none⟩ a0).setCell ⟨b,1,none⟩ a1).setCell ⟨b,2,none⟩ a2).setCell ⟨b,3,none⟩ a3).setCell ⟨b,4,none⟩ a4).setCell ⟨b,5,none⟩ a5).setCell ⟨b,6,none⟩ a6) b [a0,a1,a2,a3,a4,a5,a6]:=
 ((((((h.set 0 a0).set 1 a1).set 2 a2).set 3 a3).set 4 a4).set 5 a5).set 6 a6
theorem tn7 (w:World) (R:Nat) (a0 a1 a2 a3 a4 a5 a6:Value):Tn [R] w (((((((w.setCell ⟨R,0,none⟩ a0).setCell ⟨R,1,none⟩ a1).setCell ⟨R,2,none⟩ a2).setCell ⟨R,3,none⟩ a3).setCell ⟨R,4,none⟩ a4).setCell ⟨R,5,none⟩ a5).setCell ⟨R,6,none⟩ a6):=
 ((((((tn1 _ _ _ _).trans (tn1 _ _ _ _)).trans (tn1 _ _ _ _)).trans (tn1 _ _ _ _)).trans (tn1 _ _ _ _)).trans (tn1 _ _ _ _)).trans (tn1 _ _ _ _)
theorem sReplay_any (wd:Int) (a:Option Addr) (cap:Nat) (xs:List ByteArray) (w:World) (hrow:SRow w w.heap.size a xs) (hl:xs.length<=1048576) (hs:∀s∈xs,s.size<=1048576):
 Calls prog 10 #[.int .i64 wd,.slice a xs.length cap] w (RAns wd xs w):=by
 obtain⟨W,hW⟩:∃W,W=w.alloc (.cells #[.int .i64 0,.int .i64 0,.int .i64 0,.int .i64 0,.int .i64 0,.slice none 0 0,.slice none 0 0,.slice none 0 0,.string ⟨#[]⟩,.int .i64 0,.string ⟨#[]⟩,.string ⟨#[]⟩] 30):=⟨_,rfl⟩;have bW:=(al1 hW).1;have zW:=(al1 hW).2.1;have xW:CellsAt W w.heap.size z12:=(al1 hW).2.2;have HW:Hid _:=hW;have HI:=swidth_any wd W
 obtain⟨⟨y0,q0⟩,⟨y1,q1⟩,⟨y2,q2⟩,⟨y3,q3⟩,⟨y4,q4⟩,⟨y5,q5⟩,⟨y6,q6⟩,⟨y7,q7⟩,⟨y8,q8⟩,⟨y9,q9⟩,⟨y10,q10⟩,y11,q11⟩:=z12at xW;clear hW;by_cases hwd:1<=wd/\wd<=8
 ·rw[decide_eq_true hwd] at HI
  by_cases hlen:xs.length<=4000
  ·have hll:decide ((4000:Int)<xs.length)=false:=by simp;omega
   obtain⟨A,hA⟩:∃A,A=W.alloc (.cells #[.int .i64 wd,.int .i64 0,.int .i64 0,.int .i64 0,.slice none 0 0,.slice none 0 0,.slice none 0 0] 28):=⟨_,rfl⟩;have bA:=(al1 hA).1;have zA:A.heap.size=w.heap.size+2:=by rw[hA];simp;omega
   have sA:CellsAt A (w.heap.size+1) [.int .i64 wd,.int .i64 0,.int .i64 0,.int .i64 0,.slice none 0 0,.slice none 0 0,.slice none 0 0]:=by rw[hA,←zW];exact CellsAt.new W _ _
   have xA:CellsAt A w.heap.size z12:=CellsAt.below (v:=.int .i64 0) xW bA;have bwA:Below w.heap.size w A:=bW.trans (bA.mono bW.size)
   have hCT:CT A (w.heap.size+2) w.heap.size none none none 0 0 [] [] []:=⟨.inr rfl,fun i z hz=>by simp at hz,by omega,⟨rfl,.inl ⟨rfl,rfl⟩⟩,⟨rfl,.inl ⟨rfl,rfl⟩⟩,by omega,by simp[Value.ownBlock],fun q hq=>by simp[Value.ownBlock] at hq,fun z hz=>by simp at hz,.inl rfl,fun z hz=>by simp at hz⟩;have HIw:Hid _:=HI;have HA:Hid _:=hA;have H0:Hid _:=And.intro sA (And.intro xA (And.intro hCT bwA))
   have HROW:Hid (SRow w w.heap.size a xs):=hrow;clear HI hA sA xA hCT bA hrow;go_enter func10,ntmps10;go_wp2_with fail;rw[←HW.out];refine Calls.mono HIw.out ?_;rintro e w1 ⟨rfl,hw1⟩;replace hw1:=hw1.symm;subst hw1;clear HIw;go_upto_region 4 with fail;rw[←HA.out];clear HA y0 y1 y2 y3 y4 y5 y6 y7 y8 y9 y10 y11 q0 q1 q2 q3 q4 q5 q6 q7 q8 q9 q10 q11;go_wp2
   go_loopw [6] (fun i wr=>∃(k:Nat) (r:Rs) (b:Nat) (ta pa la:Option Addr) (tc pc lc:Nat) (zs:List (Kd×Value)),k<=xs.length/\i=.int .i64 k/\Hid (CellsAt wr (w.heap.size+1) [.int .i64 wd,.int .i64 r.now,.int .i64 r.given,.int .i64 r.births,.slice ta zs.length tc,.slice pa r.ps.length pc,.slice la r.ls.length lc]/\CellsAt wr w.heap.size z12/\CT wr (w.heap.size+2) b ta pa la pc lc zs r.ps r.ls/\zs.map (·.1)=r.ks/\Run wd r0 (xs.take k) r/\Below w.heap.size w wr)) (fun i _=>xs.length -(intOf i).toNat)
   case atStart=>exact⟨0,r0,w.heap.size,none,none,none,0,0,0,[],Nat.zero_le _,rfl,⟨H0.out.1,H0.out.2.1,H0.out.2.2.1,rfl,rfl,H0.out.2.2.2⟩⟩
   case round=>
    clear H0;obtain⟨k,r,b,ta,pa,la,tc,pc,lc,zs,hk,rfl,HI⟩:=hrel;obtain⟨hs1,hx0,hCT,hzk,hrun,hbw⟩:=HI.out;by_cases hlt:k<xs.length
    ·obtain⟨rb,roff,ha,hrb,hrc⟩:=((HROW.out.below hbw).mono hbw.size).at hlt
     subst ha;have HG:Hid (xs[k]?=some xs[k]):=List.getElem?_eq_getElem hlt;have hsm:=hs _ (List.getElem_mem hlt);have c0:=hrc k _ HG.out;have HTk:Hid (xs.take (k+1)=xs.take k++[xs[k]]):=List.take_succ_eq_append_getElem hlt;clear hrc;generalize xs[k]=s at *
     have HR:Hid _:=sReadE_any s wd wr hsm;clear hs1 hx0 hCT hzk hrun hbw;go_wp2_with fail;refine Calls.mono HR.out ?_;rintro e w2 ⟨v,rfl,ho2,hb2⟩;obtain⟨ra,rc,rfl⟩:=own_val ho2;obtain⟨w3,hw3⟩:∃X,X=w2.alloc (.cells #[.int .i64 (rdE s wd).k,.string (rdE s wd).sum,.string (rdE s wd).name,.int .i64 (rdE s wd).n,.string (rdE s wd).t,.slice ra (rdE s wd).ss.length rc] 77):=⟨_,rfl⟩
     have b23:=(al1 hw3).1;have b3:Below wr.heap.size wr w3:=hb2.trans (b23.mono hb2.size);have e3:=(al1 hw3).2.2;have s3:=CellsAt.below HI.out.1 b3;have x3:=CellsAt.below (v:=.int .i64 0) HI.out.2.1 b3;have hC3:=HI.out.2.2.1.below b3;have HBw3:Hid (Below w.heap.size w w3):=HI.out.2.2.2.2.2.trans (b3.mono HI.out.2.2.2.2.2.size);have ho3:=own_nilR (own_below ho2 b23);have HW3:Hid _:=hw3
     have hkk:(k:Int)<=4000:=by omega
     clear hw3 HR;cases hok:(rdE s wd).ok with
     |false=>
      obtain⟨⟨y0,q0⟩,⟨y1,q1⟩,⟨y2,q2⟩,⟨y3,q3⟩,⟨y4,q4⟩,⟨y5,q5⟩,⟨y6,q6⟩,⟨y7,q7⟩,⟨y8,q8⟩,⟨y9,q9⟩,⟨y10,q10⟩,y11,q11⟩:=z12at x3;clear e3 s3 hC3 ho3 c0 x3;go_upto_region 8 with fail;rw[←HW3.out];go_wp2
      refine bodyPost_ret (v:=.agg #[.int .i64 7,.int .i64 0,.int .i64 0,.int .i64 0,.int .i64 0,.slice none 0 0,.slice none 0 0,.slice none 0 0,.string ⟨#[]⟩,.int .i64 ((k:Int)+1),.string ⟨#[]⟩,.string ⟨#[]⟩]) (by simp[results,results10,go_sem,y0,y1,y2,y3,y4,y5,y6,y7,y8,y9,y10,y11]) rfl ?_
      exact⟨⟨7,0,0,0,0,((k+1:Nat):Int),⟨#[]⟩,⟨#[]⟩,⟨#[]⟩,[],[],[]⟩,_,_,_,[],.inr ⟨⟨hwd,hlen⟩,.inl ⟨k+1,⟨k,r,s,rfl,HG.out,HI.out.2.2.2.2.1,.inl hok⟩,rfl⟩⟩,rfl,nilS _ _,HBw3.out.trans ((tn12 w3 w.heap.size _ _ _ _ _ _ _ _ _ _ _ _).below HBw3.out.size (by simp))⟩
     |true=>
      have hoe:=(rdE_sound hok).1;have hro:=HI.out.2.2.2.2.1.ok (r0_ok hwd.1 hwd.2);have hzk:=HI.out.2.2.2.1;have haok:AOk wd r.now r.given r.births (zs.map (·.1)) r.ps r.ls (rdE s wd).k (rdE s wd).n (rdE s wd).t (rdE s wd).ss:=by
       rw[hzk];exact ROk.aok hro hoe (by have:=okE_text hoe;unfold maxLen;omega)
      have HAp:Hid _:=l4Apply_opt (w.heap.size+2) wd r.now r.given r.births b ta pa la tc pc lc zs r.ps r.ls (rdE s wd).sum (rdE s wd).name (rdE s wd).t (rdE s wd).n (rdE s wd).ss ra rc w3 (rdE s wd).k hC3 haok (by rw[hzk];exact hro.r30) ho3.1 ho3.2;obtain⟨v0,v1,v2,v3,v4,v5,v6⟩:=CellsAt.c7 s3 0 1 2 3 4 5 6;obtain⟨u0,u1,u2,u3,u4,u5⟩:=CellsAt.c6 e3 0 1 2 3 4 5;have HS3:Hid _:=s3
      have HX3:Hid (CellsAt w3 w.heap.size z12):=x3;have HC3:Hid _:=hC3;clear e3 s3 hC3 ho3 c0 x3 haok;go_upto_region 8 with fail;rw[←HW3.out];clear HW3;go_wp2_with fail;refine Calls.mono HAp.out ?_;rintro e w4 ⟨ht,hQ⟩;have hLge:∀q∈(Value.slice la r.ls.length lc).ownBlock.toList,w.heap.size+2<=q:=fun q hq=>(own_lt HC3.out.lo (by simpa using hq)).1
      have b34:Below (w.heap.size+2) w3 w4:=ht.below HC3.out.lb hLge;have x4:CellsAt w4 w.heap.size z12:=CellsAt.same HX3.out (b34.block _ (by omega));have s4:=CellsAt.same HS3.out (b34.block _ (by omega));have HB4:Hid (Below w.heap.size w w4):=HBw3.out.trans (b34.mono (by omega));clear v0 v1 v2 v3 v4 v5 v6 u0 u1 u2 u3 u4 u5 HAp ht
      rcases hQ with⟨c,a',b',hno,rfl⟩|⟨r',b1,ta1,tc1,zs1,pa1,pc1,la1,lc1,hy,rfl,hm,hC⟩
      ·rw[hzk] at hno
       have hc0:(c !=0)=true:=by have:=hno.code;simp;omega
       have HNo:Hid _:=hno;have hre:(refC c a' b').toArray= #[.int .i64 c,.int .i64 0,.int .i64 0,.int .i64 0,.int .i64 0,.slice none 0 0,.slice none 0 0,.slice none 0 0,.string ⟨#[]⟩,.int .i64 0,.string a',.string b']:=rfl;rw[hre]
       obtain⟨w5,hw5⟩:∃X,X=w4.alloc (.cells #[.int .i64 c,.int .i64 0,.int .i64 0,.int .i64 0,.int .i64 0,.slice none 0 0,.slice none 0 0,.slice none 0 0,.string ⟨#[]⟩,.int .i64 0,.string a',.string b'] 30):=⟨_,rfl⟩;have b45:=(al1 hw5).1;have n5:=(al1 hw5).2.2;have HBw5:Hid (Below w.heap.size w w5):=HB4.out.trans (b45.mono HB4.out.size)
       obtain⟨⟨y0,q0⟩,⟨y1,q1⟩,⟨y2,q2⟩,⟨y3,q3⟩,⟨y4,q4⟩,⟨y5,q5⟩,⟨y6,q6⟩,⟨y7,q7⟩,⟨y8,q8⟩,⟨y9,q9⟩,⟨y10,q10⟩,y11,q11⟩:=z12at (CellsAt.below (v:=.int .i64 0) x4 b45);obtain⟨m0,_⟩:=n5 0 _ rfl;have HW5:Hid _:=hw5;clear hw5 hno n5 x4 s4 hre;go_upto_region 11 with fail;rw[←HW5.out];go_wp2
       refine bodyPost_ret (v:=.agg #[.int .i64 7,.int .i64 0,.int .i64 0,.int .i64 0,.int .i64 0,.slice none 0 0,.slice none 0 0,.slice none 0 0,.string ⟨#[]⟩,.int .i64 ((k:Int)+1),.string ⟨#[]⟩,.string ⟨#[]⟩]) (by simp[results,results10,go_sem,y0,y1,y2,y3,y4,y5,y6,y7,y8,y9,y10,y11]) rfl ?_
       exact⟨⟨7,0,0,0,0,((k+1:Nat):Int),⟨#[]⟩,⟨#[]⟩,⟨#[]⟩,[],[],[]⟩,_,_,_,[],.inr ⟨⟨hwd,hlen⟩,.inl ⟨k+1,⟨k,r,s,rfl,HG.out,HI.out.2.2.2.2.1,.inr ⟨c,a',b',HNo.out⟩⟩,rfl⟩⟩,rfl,nilS _ _,HBw5.out.trans ((tn12 w5 w.heap.size _ _ _ _ _ _ _ _ _ _ _ _).below HBw5.out.size (by simp))⟩
      ·rw[hzk] at hy
       obtain⟨w5,hw5⟩:∃X,X=w4.alloc (.cells #[.int .i64 0,.int .i64 wd,.int .i64 r'.now,.int .i64 r'.given,.int .i64 r'.births,.slice ta1 r'.ks.length tc1,.slice pa1 r'.ps.length pc1,.slice la1 r'.ls.length lc1,.string r'.sm,.int .i64 r'.le,.string ⟨#[]⟩,.string ⟨#[]⟩] 30):=⟨_,rfl⟩;have b45:=(al1 hw5).1;have n5:=(al1 hw5).2.2;have s5:=CellsAt.below s4 b45
       have x5:=CellsAt.below (v:=.int .i64 0) x4 b45;have hC5:=hC.below b45;have HB5:Hid (Below w.heap.size w w5):=HB4.out.trans (b45.mono HB4.out.size);have hlz:r'.ks.length=zs1.length:=by rw[←hm,List.length_map]
       have H5:Hid _:=And.intro s5 (And.intro x5 (And.intro hC5 (And.intro hm (And.intro hy hlz))));obtain⟨⟨v0,p0⟩,⟨v1,p1⟩,⟨v2,p2⟩,⟨v3,p3⟩,⟨v4,p4⟩,⟨v5,p5⟩,v6,p6⟩:=(⟨s5 0 _ rfl,s5 1 _ rfl,s5 2 _ rfl,s5 3 _ rfl,s5 4 _ rfl,s5 5 _ rfl,s5 6 _ rfl⟩:(_/\_)/\(_/\_)/\(_/\_)/\(_/\_)/\(_/\_)/\(_/\_)/\_/\_);obtain⟨m0,m1,m2,m3,m4,m5,m6⟩:=CellsAt.c7 n5 0 1 2 3 4 5 6;obtain⟨m7,_⟩:=n5 7 _ rfl
       have HW5:Hid _:=hw5;have HTk':Hid (Run wd r0 (xs.take (k+1)) r'):=by
        show Run _ _ _ _;rw[HTk.out];exact HI.out.2.2.2.2.1.snoc ⟨hok,hy⟩
       have hzl5:w.heap.size+2<=w5.heap.size:=hC5.lb;clear hw5 hy n5 x4 s4 s5 x5 hC hC5 hlz hm;go_upto_region 11 with fail;rw[←HW5.out];clear HW5;go_wp2
       refine⟨⟨k+1,r',b1,ta1,pa1,la1,tc1,pc1,lc1,zs1,by omega,by go_num,⟨?_,CellsAt.same H5.out.2.1 ((tn7 w5 (w.heap.size+1) _ _ _ _ _ _ _).block _ (by omega) (by simp)),H5.out.2.2.1.low (tn7 w5 (w.heap.size+1) _ _ _ _ _ _ _) (by simp),H5.out.2.2.2.1,HTk'.out,HB5.out.trans ((tn7 w5 (w.heap.size+1) _ _ _ _ _ _ _).below HB5.out.size (by simp))⟩⟩,by simp[intOf];omega⟩;rw[←H5.out.2.2.2.2.2]
       exact set7' H5.out.1 _ _ _ _ _ _ _
    ·obtain rfl:k=xs.length:=by omega
     have hrun:=HI.out.2.2.2.2.1;rw[List.take_of_length_le (Nat.le_refl _)] at hrun;have hro:=hrun.ok (r0_ok hwd.1 hwd.2);have hzk:=HI.out.2.2.2.1;have hcx:=HI.out.2.2.1;have h1:=l4Copy_opt wd r.now r.given r.births ta pa la tc pc lc (zs.map (·.1)) r.ps r.ls wr ⟨hcx.krow,hcx.prow,hcx.lrow⟩ (fun B hB=>by
      rcases hcx.tb with e|e
      ·rw[e] at hB
       cases hB;exact hcx.z.some
      ·rw[e]
       intro i k hk;simp at hk) (own_cap hcx.po) (own_cap hcx.lo) (by rw[hzk];exact hro.kso.len) hro.np hro.nl (by rw[hzk];exact hro.r30)
     rw[List.length_map,hzk] at h1;have HC:Hid _:=h1;have HRn:Hid (Run wd r0 xs r):=hrun;obtain⟨v0,v1,v2,v3,v4,v5,v6⟩:=CellsAt.c7 HI.out.1 0 1 2 3 4 5 6;clear h1 hrun hro hzk hcx hs1 hx0 hCT hbw;go_wp2_with fail;refine Calls.mono HC.out ?_;rintro e w4 ⟨T,P',L',rs,rfl,hS,_,hb4⟩;obtain⟨ta',tc',rfl⟩:=own_val hS.things;obtain⟨pa',pc',rfl⟩:=own_val hS.pins;obtain⟨la',lc',rfl⟩:=own_val hS.leases
     have x4:CellsAt w4 w.heap.size z12:=CellsAt.below (v:=.int .i64 0) HI.out.2.1 hb4;have hzl:w.heap.size<wr.heap.size:=HI.out.2.1.lt;have HF:Hid _:=And.intro hS hb4;obtain⟨⟨y0,q0⟩,⟨y1,q1⟩,⟨y2,q2⟩,⟨y3,q3⟩,⟨y4,q4⟩,⟨y5,q5⟩,⟨y6,q6⟩,⟨y7,q7⟩,⟨y8,q8⟩,⟨y9,q9⟩,⟨y10,q10⟩,y11,q11⟩:=z12at x4;clear hS hb4 HC x4 v0 v1 v2 v3 v4 v5 v6;go_wp2
     refine bodyPost_ret (v:=.agg #[.int .i64 0,.int .i64 wd,.int .i64 r.now,.int .i64 r.given,.int .i64 r.births,.slice ta' r.ks.length tc',.slice pa' r.ps.length pc',.slice la' r.ls.length lc',.string ⟨#[]⟩,.int .i64 0,.string ⟨#[]⟩,.string ⟨#[]⟩]) (by simp[results,results10,go_sem,y0,y1,y2,y3,y4,y5,y6,y7,y8,y9,y10,y11]) rfl ?_;have hbw:=HI.out.2.2.2.2.2
     refine⟨⟨0,wd,r.now,r.given,r.births,0,⟨#[]⟩,⟨#[]⟩,⟨#[]⟩,r.ks,r.ps,r.ls⟩,_,_,_,rs,.inr ⟨⟨hwd,hlen⟩,.inr ⟨r,HRn.out,rfl⟩⟩,rfl,(HF.out.1.turn (tn12 w4 w.heap.size _ _ _ _ _ _ _ _ _ _ _ _) (by simp;exact hzl)).mono hbw.size,?_⟩;exact(hbw.trans (HF.out.2.mono hbw.size)).trans ((tn12 w4 w.heap.size _ _ _ _ _ _ _ _ _ _ _ _).below (Nat.le_trans hbw.size HF.out.2.size) (by simp))
  ·have hll:decide ((4000:Int)<xs.length)=true:=by simp;omega
   have HIw:Hid _:=HI;clear HI;go_enter func10,ntmps10;go_wp2_with fail;rw[←HW.out];refine Calls.mono HIw.out ?_;rintro e w1 ⟨rfl,hw1⟩;replace hw1:=hw1.symm;subst hw1;clear HIw;go_wp2
   refine bodyPost_ret (v:=.agg #[.int .i64 1,.int .i64 0,.int .i64 0,.int .i64 0,.int .i64 0,.slice none 0 0,.slice none 0 0,.slice none 0 0,.string ⟨#[]⟩,.int .i64 0,.string ⟨#[]⟩,.string ⟨#[]⟩]) (by simp[results,results10,go_sem,y0,y1,y2,y3,y4,y5,y6,y7,y8,y9,y10,y11]) rfl ?_
   exact⟨⟨1,0,0,0,0,0,⟨#[]⟩,⟨#[]⟩,⟨#[]⟩,[],[],[]⟩,_,_,_,[],.inl ⟨fun h=>hlen h.2,rfl⟩,rfl,nilS _ _,bW.trans ((tn12 W w.heap.size _ _ _ _ _ _ _ _ _ _ _ _).below bW.size (by simp))⟩
 ·rw[decide_eq_false hwd] at HI
  have HIw:Hid _:=HI;clear HI;go_enter func10,ntmps10;go_wp2_with fail;rw[←HW.out];refine Calls.mono HIw.out ?_;rintro e w1 ⟨rfl,hw1⟩;replace hw1:=hw1.symm;subst hw1;clear HIw;go_wp2
  refine bodyPost_ret (v:=.agg #[.int .i64 1,.int .i64 0,.int .i64 0,.int .i64 0,.int .i64 0,.slice none 0 0,.slice none 0 0,.slice none 0 0,.string ⟨#[]⟩,.int .i64 0,.string ⟨#[]⟩,.string ⟨#[]⟩]) (by simp[results,results10,go_sem,y0,y1,y2,y3,y4,y5,y6,y7,y8,y9,y10,y11]) rfl ?_
  exact⟨⟨1,0,0,0,0,0,⟨#[]⟩,⟨#[]⟩,⟨#[]⟩,[],[],[]⟩,_,_,_,[],.inl ⟨fun h=>hwd h.1,rfl⟩,rfl,nilS _ _,bW.trans ((tn12 W w.heap.size _ _ _ _ _ _ _ _ _ _ _ _).below bW.size (by simp))⟩
end Go.Proofs.YtpekbmegopfhfaaGreatDoor
