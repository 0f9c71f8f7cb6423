import Derived.Test.YtpekbmegopfhfaaGreatDoorK41
import Derived.Test.YtpekbmegopfhfaaGreatDoorK18
import Derived.Test.YtpekbmegopfhfaaGreatDoorK32
set_option maxRecDepth 100000
set_option maxHeartbeats 16000000
namespace Go.Proofs.YtpekbmegopfhfaaGreatDoor
open Go.ChangeShapes Go.WideShapes Go.ChangeAt Go.RowKit _root_.Go.Proofs.Tryz
section
structure CT (w:World) (base b:Nat) (ta pa la:Option Addr) (pc lc:Nat) (zs:List (Kd×Value)) (ps:List Pd) (ls:List Ld):Prop where
 tb:ta=some ⟨b,0,none⟩∨zs=[]
 z:BE w b 0 zs
 bl:b<w.heap.size
 po:w.ownsRow base 134 2 (.slice pa ps.length pc) ps.length (Ab pC ps)
 lo:w.ownsRow base 137 3 (.slice la ls.length lc) ls.length (Ab lC ls)
 lb:base<=w.heap.size
 bL:some b≠(Value.slice la ls.length lc).ownBlock
 pL:∀g,(Value.slice pa ps.length pc).ownBlock=some g->(Value.slice la ls.length lc).ownBlock≠some g
 zL:∀z∈zs,∀ad n rc,z.2=.slice (some ad) n rc->z.1.refs≠[]->some ad.block≠(Value.slice la ls.length lc).ownBlock
 zb:zs=[]∨base<=b
 zr:∀z∈zs,∀ad n rc,z.2=.slice (some ad) n rc->z.1.refs≠[]->base<=ad.block
def Ly (base:Nat) (L:Value) (wd now given births:Int) (ks:List Kd) (ps:List Pd) (ls:List Ld) (kd:Int) (s nm:ByteArray) (num:Int) (text:ByteArray) (refs:List ByteArray) (w:World) (e:Ending) (w':World):Prop:=
 Tn L.ownBlock.toList w w'/\(
  (∃c a b,Lp wd now given births ks ps ls kd s nm num text refs c a b/\e=.returned (.agg (BT c a b).toArray))∨
  (∃r b1 ta1 tc1 zs1 pa1 pc1 la1 lc1,Hl wd now given births ks ps ls kd s nm num text refs r/\e=.returned (.agg #[XK,XJ wd,XJ r.now,XJ r.given,XJ r.births,.slice ta1 r.ks.length tc1,.slice pa1 r.ps.length pc1,.slice la1 r.ls.length lc1,.string r.sm,XJ r.le,XM,XM])/\zs1.map (·.1)=r.ks/\CT w' base b1 ta1 pa1 la1 pc1 lc1 zs1 r.ps r.ls))
section
variable {w w':World} {base b:Nat} {ta pa la:Option Addr} {pc lc:Nat} {zs:List (Kd×Value)} {ps:List Pd} {ls:List Ld}
theorem CT.below (h:CT w base b ta pa la pc lc zs ps ls) (hb:Xz w w'):CT w' base b ta pa la pc lc zs ps ls:=
 ⟨h.tb,h.z.below hb h.bl,XH h.bl hb.size,Ad h.po hb,Ad h.lo hb,XI h.lb hb.size,h.bL,h.pL,h.zL,h.zb,h.zr⟩
theorem CT.krow (h:CT w base b ta pa la pc lc zs ps ls):Bx w w.heap.size ta (zs.map (·.1)):=by
 rcases h.tb with e|e
 ·rw[e]
  exact h.z.krow h.bl
 ·rw[e]
  exact .inl rfl
theorem CT.prow (h:CT w base b ta pa la pc lc zs ps ls):AQ w w.heap.size pa ps:=AQ.own h.po
theorem CT.lrow (h:CT w base b ta pa la pc lc zs ps ls):AR w w.heap.size la ls:=AR.own h.lo
theorem CT.withP (h:CT w base b ta pa la pc lc zs ps ls) {n g c:Nat} {zA:List Pd} (ho:w.ownsRow n 134 2 (.slice (some ⟨g,0,none⟩) zA.length c) zA.length (Ab pC zA)) (hn:base<=n) (hl:∀q,(Value.slice la ls.length lc).ownBlock=some q->q<n):CT w base b ta (some ⟨g,0,none⟩) la c lc zs zA ls:=
 ⟨h.tb,h.z,h.bl,ho.mono hn,h.lo,h.lb,h.bL,fun q hq hL=>by have h1:=(Ac ho hq).1;have h2:=hl q hL;omega,h.zL,h.zb,h.zr⟩
theorem CT.withL (h:CT w base b ta pa la pc lc zs ps ls) {n g c:Nat} {zA:List Ld} (ho:w.ownsRow n 137 3 (.slice (some ⟨g,0,none⟩) zA.length c) zA.length (Ab lC zA)) (hn:base<=n) (hb:b<n) (hp:∀q,(Value.slice pa ps.length pc).ownBlock=some q->q<n) (hz:∀z∈zs,∀ad m rc,z.2=.slice (some ad) m rc->z.1.refs≠[]->ad.block<n):CT w base b ta pa (some ⟨g,0,none⟩) pc c zs ps zA:=by
 have hg:=(Ac ho (g:=g) rfl).1;refine⟨h.tb,h.z,h.bl,h.po,ho.mono hn,h.lb,fun e=> ?_,fun q hq e=> ?_,fun z hz' ad m rc e1 e2 e=> ?_,h.zb,h.zr⟩
 ·have:b=g:=by simpa [Value.ownBlock] using e
  omega
 ·have h1:g=q:=by simpa [Value.ownBlock] using e
  have:=hp q hq;omega
 ·have h1:ad.block=g:=by simpa [Value.ownBlock] using e
  have:=hz z hz' ad m rc e1 e2;omega
theorem CT.lts (h:CT w base b ta pa la pc lc zs ps ls):(∀q,(Value.slice pa ps.length pc).ownBlock=some q->q<w.heap.size)/\(∀q,(Value.slice la ls.length lc).ownBlock=some q->q<w.heap.size)/\∀z∈zs,∀ad m rc,z.2=.slice (some ad) m rc->z.1.refs≠[]->ad.block<w.heap.size:=
 ⟨fun _ hq=>(Ac h.po hq).2,fun _ hq=>(Ac h.lo hq).2,fun _ hz _ _ _ e1 e2=>h.z.refs_lt hz e1 e2⟩
theorem IQ {w:World} {base:Nat} {e:TypeId} {size:Nat} {a:Option Addr} {m c n:Nat} {xs:List Value} (h:w.ownsRow base e size (.slice a m c) n xs) (ha:a=none):c=0:=by
 rcases h.2 with⟨hv,_⟩|⟨g,cap,zA,hv,_⟩
 ·injection hv
 ·injection hv with e1
  rw[ha] at e1;cases e1
end
theorem Do {w w':World} {base:Nat} {e:TypeId} {size:Nat} {v:Value} {n:Nat} {xs:List Value} (h:w.ownsRow base e size v n xs) {q:Nat} (ht:Tn [q] w w') (hq:q<base):w'.ownsRow base e size v n xs:=
 Ah h (fun g hg=>ht.block g (Ac h hg).2 (by have:=(Ac h hg).1;simp;omega))
theorem Lz {w w':World} {base:Nat} {e:TypeId} {size:Nat} {v:Value} {n:Nat} {xs:List Value} (h:w.ownsRow base e size v n xs) {q:Nat} (ht:Tn [q] w w') (hq:∀g,v.ownBlock=some g->g≠q):w'.ownsRow base e size v n xs:=
 Ah h (fun g hg=>ht.block g (Ac h hg).2 (by simp;exact hq g hg))
theorem BO {w X w' zA:World} (hX:Xz w X) (h1:Xz X w') (h2:Tn [w.heap.size+2] w' zA):Below w.heap.size w zA:=
 (hX.trans (h1.mono hX.size)).trans (h2.below (XI hX.size h1.size) (by intro v hv;simp at hv;omega))
theorem Md (wd now given births kd num:Int) (ta pa la ra:Option Addr) (tc pn pc ln lc rn rc:Nat) (ks:List Kd) (s nm text:ByteArray) (w:World) (zB:Bx w w.heap.size ta ks) (zH:ks.length<=1000) (zC:¬Au ks s):
 Calls prog 86 #[.agg #[XJ wd,XJ now,XJ given,XJ births,.slice ta ks.length tc,.slice pa pn pc,.slice la ln lc],.agg #[XJ kd,.string s,.string nm,XJ num,.string text,.slice ra rn rc]] w fun e w'=>e=.returned (.agg (BT 2 ⟨#[]⟩ ⟨#[]⟩).toArray)/\Xz w w':=by
 obtain⟨W,hW⟩:∃W,W=((w.alloc (.cells #[XJ wd,XJ now,XJ given,XJ births,.slice ta ks.length tc,.slice pa pn pc,.slice la ln lc] 28)).alloc (.cells #[XJ kd,.string s,.string nm,XJ num,.string text,.slice ra rn rc] 77)).alloc (.cells #[XK,XK,XK,XK,XK,XN,XN,XN,XM,XK,XM,XM] 30):=⟨_,rfl⟩;have bW:=(Bp hW).1;have x0:=(Bp hW).2.2.1
 have xe:Aa W (w.heap.size+1) [XJ kd,.string s,.string nm,XJ num,.string text,.slice ra rn rc]:=by
  have h1:=Aa.new (w.alloc (.cells #[XJ wd,XJ now,XJ given,XJ births,.slice ta ks.length tc,.slice pa pn pc,.slice la ln lc] 28)) [XJ kd,.string s,.string nm,XJ num,.string text,.slice ra rn rc] 77;rw[World.size_alloc] at h1;rw[hW];exact Aa.below h1 (XA)
 have x1:Aa W (w.heap.size+2) As:=by
  have h1:=Aa.new ((w.alloc (.cells #[XJ wd,XJ now,XJ given,XJ births,.slice ta ks.length tc,.slice pa pn pc,.slice la ln lc] 28)).alloc (.cells #[XJ kd,.string s,.string nm,XJ num,.string text,.slice ra rn rc] 77)) As 30;rw[World.size_alloc,World.size_alloc] at h1;rw[hW];exact h1
 have HF:Hid _:=Fb wd now given births ta tc (.slice pa pn pc) (.slice la ln lc) ks s W w.heap.size (Bx.below zB bW) bW.size (by omega);have zK:=GW zC;have HW:Hid _:=hW;have zE:Hid _:=x1;obtain⟨v0,v1,v2,v3,v4,v5,v6,v7⟩:=Br x0;obtain⟨u1,_⟩:=xe 1 _ rfl;clear hW x0 x1 xe zB zC;go_enter func86,ntmps86;go_upto_region 1 with fail;rw[←HW.o];clear HW;go_wp2_with fail;refine Calls.mono HF.o ?_
 rintro e w1 ⟨rfl,zA⟩;obtain⟨⟨y0,q0⟩,⟨y1,q1⟩,⟨y2,q2⟩,⟨y3,q3⟩,⟨y4,q4⟩,⟨y5,q5⟩,⟨y6,q6⟩,⟨y7,q7⟩,⟨y8,q8⟩,⟨y9,q9⟩,⟨zF,zJ⟩,zG,zI⟩:=AS (Aa.below (v:=XK) zE.o zA);have hB:=bW.trans (zA.mono bW.size);generalize Cy ks s=fi at *
 clear v0 v1 v2 v3 v4 v5 v6 v7 HF u1;go_wp2;refine bodyPost_ret (v:=.agg (BT 2 ⟨#[]⟩ ⟨#[]⟩).toArray) (by simp[results,results86,go_sem,y0,y1,y2,y3,y4,y5,y6,y7,y8,y9,zF,zG,BT]) rfl ?_;exact⟨rfl,hB.trans (Tn.below (Bc w1 (w.heap.size+2) _ _ _ _ _ _ _ _ _ _ _ _) hB.size (by intro v hv;simp at hv;omega))⟩
theorem Oj {ps:List Pd} {n:ByteArray} (s:ByteArray) (h:¬∃x∈ps,x.name=n):(Bi ps n s).length=ps.length+1:=by
 have h2:∀(l:List Pd),(¬∃x∈l,x.name=n)->(l.filter (fun x=>less x.name n)).length+(l.filter (fun x=> !(less x.name n)&& !decide (x.name=n))).length=l.length:=by
  intro l;induction l with
  |nil=>intro _;rfl
  |cons x l ih=>
   intro hl;have hn:x.name≠n:=fun e=>hl ⟨x,by simp,e⟩;have:=ih (fun⟨y,hy,e⟩=>hl ⟨y,by simp[hy],e⟩);cases hl:less x.name n<;>simp[hl,hn]<;>omega
 have:=h2 ps h;unfold Bi;rw[List.length_append,List.length_append];simp;omega
def WM (wd now given births num:Int) (zs:List (Kd×Value)) (ps:List Pd) (ls:List Ld) (s:ByteArray) (X:World) (e:Ending) (w':World):Prop:=
 Below X.heap.size X w'/\(((ls.length=200∨given=1000000000)/\e=.returned (.agg (BT 4 ⟨#[]⟩ ⟨#[]⟩).toArray))∨
  ((ls.length<200/\given<1000000000)/\∃b1 tc1 zs1 p1 pc1 g c,e=.returned (.agg #[XK,XJ wd,XJ now,XJ (given+1),XJ births,.slice (some ⟨b1,0,none⟩) zs.length tc1,.slice (some ⟨p1,0,none⟩) ps.length pc1,.slice (some ⟨g,0,none⟩) (ls.length+1) c,XM,XJ (given+1),XM,XM])/\zs1.map (·.1)=zs.map (·.1)/\w'.ownsRow X.heap.size 114 4 (.slice (some ⟨b1,0,none⟩) zs1.length tc1) zs1.length (Ab kC zs1)/\(∀z∈zs1,∃g' c',z.2=.slice (some ⟨g',0,none⟩) z.1.refs.length c'/\w'.ownsRow X.heap.size 9 1 z.2 z.1.refs.length (z.1.refs.map Value.string))/\w'.ownsRow X.heap.size 134 2 (.slice (some ⟨p1,0,none⟩) ps.length pc1) ps.length (Ab pC ps)/\w'.ownsRow X.heap.size 137 3 (.slice (some ⟨g,0,none⟩) (ls.length+1) c) (ls++[(⟨given+1,s,now+num⟩:Ld)]).length (Ab lC (ls++[(⟨given+1,s,now+num⟩:Ld)]))/\b1≠g/\p1≠g/\∀z∈zs1,∀ad n rc,z.2=.slice (some ad) n rc->ad.block≠g))
theorem BE.some {w:World} {b off:Nat} {zs:List (Kd×Value)} (h:BE w b off zs):Gz w ⟨b,off,none⟩ (zs.map (·.1)):=by
 intro i k hk;rw[List.getElem?_map] at hk;obtain⟨z,hz,rfl⟩:=Option.map_eq_some_iff.1 hk;obtain⟨⟨_,_,_,h3⟩,ad,rc,h4,_⟩:=h i z hz;exact⟨ad,rc,by rw[h3,h4]⟩
theorem TI {T P L:Option Nat} {R:List Nat} {l:Nat} (h:(T.toList++(P.toList++(L.toList++R))).Nodup) (hL:L=some l):T≠some l/\P≠some l/\l∉R:=by
 subst hL;cases T<;>cases P<;>simp_all<;>grind
section
variable (base:Nat) (wd now given births:Int) (b:Nat) (ta pa la:Option Addr) (tc pc lc:Nat) (zs:List (Kd×Value)) (ps:List Pd) (ls:List Ld) (s nm text:ByteArray) (num:Int) (refs:List ByteArray) (ra:Option Addr) (rc:Nat) (w:World)
theorem TJ (h:CT w base b ta pa la pc lc zs ps ls) (ha:Ia wd now given births (zs.map (·.1)) ps ls 3 num text refs):
 Calls prog 42 #[.agg #[XJ wd,XJ now,XJ given,XJ births,.slice ta zs.length tc,.slice pa ps.length pc,.slice la ls.length lc],.agg #[XJ 3,.string s,.string nm,XJ num,.string text,.slice ra refs.length rc]] w (Ly base (.slice la ls.length lc) wd now given births (zs.map (·.1)) ps ls 3 s nm num text refs w):=by
 refine CW 3 87 _ wd now given births ta pa la zs.length tc ps.length pc ls.length lc s nm text num ra refs.length rc w [] (fun X e w'=>OE X w' e wd now given births (.slice ta zs.length tc) (.slice la ls.length lc) ps nm) _ (.inr (.inr (.inl ⟨rfl,rfl,rfl⟩))) (by simp) (fun X hX _=>NI wd now given births ta la pa zs.length tc ls.length lc pc ps nm X (h.below hX).prow (by have:=ha.np;omega)) ?_ ?_
 ·rintro X e w' ⟨hb,⟨_,rfl⟩|⟨_,g,c,rfl,_⟩⟩
  ·exact⟨Tn.of hb,_,_,_,_,_,_,_,_,_,_,_,_,_,_,_,_,_,_,rfl⟩
  ·exact⟨Tn.of hb,_,_,_,_,_,_,_,_,_,_,_,_,_,_,_,_,_,_,rfl⟩
 ·rintro X e w' zE hX hz ⟨hb,⟨zB,rfl⟩|⟨zA,g,c,rfl,ho⟩⟩ ht
  ·exact⟨Tn.of (BO hX hb ht),.inl ⟨5,_,_,.inr ⟨rfl,rfl,.inr (.inl ⟨rfl,zB,rfl⟩)⟩,rfl⟩⟩
  ·have hB:=BO hX hb ht
   have hc:=h.below hB;have zC:=Do ho ht (by omega);exact⟨Tn.of hB,.inr ⟨⟨⟨#[]⟩,0,now,given,births,zs.map (·.1),AV ps nm,ls⟩,b,ta,tc,zs,_,c,la,lc,.inr (.inr (.inl ⟨rfl,zA,rfl⟩)),by rw[List.length_map],rfl,hc.withP zC (XI h.lb hX.size) (fun q hq=>XH (h.lts.2.1 q hq) hX.size)⟩⟩
theorem TL (h:CT w base b ta pa la pc lc zs ps ls) (ha:Ia wd now given births (zs.map (·.1)) ps ls 5 num text refs):
 Calls prog 42 #[.agg #[XJ wd,XJ now,XJ given,XJ births,.slice ta zs.length tc,.slice pa ps.length pc,.slice la ls.length lc],.agg #[XJ 5,.string s,.string nm,XJ num,.string text,.slice ra refs.length rc]] w (Ly base (.slice la ls.length lc) wd now given births (zs.map (·.1)) ps ls 5 s nm num text refs w):=by
 refine CW 5 89 _ wd now given births ta pa la zs.length tc ps.length pc ls.length lc s nm text num ra refs.length rc w [] (fun X e w'=>Rb X w' e wd now given births (.slice ta zs.length tc) (.slice pa ps.length pc) ls num) _ (.inr (.inr (.inr (.inl ⟨rfl,rfl,rfl⟩)))) (by simp) (fun X hX _=>Py wd now given births ta pa la zs.length tc ps.length pc lc ls num X (h.below hX).lrow (by have:=ha.nl;omega)) ?_ ?_
 ·rintro X e w' ⟨hb,⟨_,rfl⟩|⟨_,g,c,rfl,_⟩⟩
  ·exact⟨Tn.of hb,_,_,_,_,_,_,_,_,_,_,_,_,_,_,_,_,_,_,rfl⟩
  ·exact⟨Tn.of hb,_,_,_,_,_,_,_,_,_,_,_,_,_,_,_,_,_,_,rfl⟩
 ·rintro X e w' zE hX hz ⟨hb,⟨zB,rfl⟩|⟨zA,g,c,rfl,ho⟩⟩ ht
  ·exact⟨Tn.of (BO hX hb ht),.inl ⟨5,_,_,.inr ⟨rfl,rfl,.inr (.inr (.inr (.inl ⟨rfl,zB,rfl⟩)))⟩,rfl⟩⟩
  ·have hB:=BO hX hb ht
   have hc:=h.below hB;have zC:=Do ho ht (by omega);exact⟨Tn.of hB,.inr ⟨⟨⟨#[]⟩,0,now,given,births,zs.map (·.1),ps,Bk ls num⟩,b,ta,tc,zs,pa,pc,_,c,.inr (.inr (.inr (.inr (.inl ⟨rfl,zA,rfl⟩)))),by rw[List.length_map],rfl,hc.withL zC (XI h.lb hX.size) (XH h.bl hX.size) (fun q hq=>XH (h.lts.1 q hq) hX.size) (fun z hz a n c e1 e2=>XH (h.lts.2.2 z hz a n c e1 e2) hX.size)⟩⟩
theorem TM (h:CT w base b ta pa la pc lc zs ps ls) (ha:Ia wd now given births (zs.map (·.1)) ps ls 6 num text refs):
 Calls prog 42 #[.agg #[XJ wd,XJ now,XJ given,XJ births,.slice ta zs.length tc,.slice pa ps.length pc,.slice la ls.length lc],.agg #[XJ 6,.string s,.string nm,XJ num,.string text,.slice ra refs.length rc]] w (Ly base (.slice la ls.length lc) wd now given births (zs.map (·.1)) ps ls 6 s nm num text refs w):=by
 refine CW 6 90 _ wd now given births ta pa la zs.length tc ps.length pc ls.length lc s nm text num ra refs.length rc w [] (fun X e w'=>Sh X w' e wd now given births (.slice ta zs.length tc) (.slice pa ps.length pc) ls num) _ (.inr (.inr (.inr (.inr (.inl ⟨rfl,rfl,rfl⟩))))) (by simp) (fun X hX _=>Qo wd now given births ta pa la zs.length tc ps.length pc lc ls num X (h.below hX).lrow (by have:=ha.nl;omega) ha.now0 ha.now1 ha.num0 ha.num1) ?_ ?_
 ·rintro X e w' ⟨hb,⟨_,rfl⟩|⟨_,g,c,rfl,_⟩⟩
  ·exact⟨Tn.of hb,_,_,_,_,_,_,_,_,_,_,_,_,_,_,_,_,_,_,rfl⟩
  ·exact⟨Tn.of hb,_,_,_,_,_,_,_,_,_,_,_,_,_,_,_,_,_,_,rfl⟩
 ·rintro X e w' zE hX hz ⟨hb,⟨zB,rfl⟩|⟨zA,g,c,rfl,ho⟩⟩ ht
  ·exact⟨Tn.of (BO hX hb ht),.inl ⟨4,_,_,.inr ⟨rfl,rfl,.inr (.inr (.inr (.inr (.inl ⟨rfl,zB,rfl⟩))))⟩,rfl⟩⟩
  ·have hB:=BO hX hb ht
   have hc:=h.below hB;have zC:=Do ho ht (by omega);exact⟨Tn.of hB,.inr ⟨⟨⟨#[]⟩,0,now+num,given,births,zs.map (·.1),ps,AG ls (now+num)⟩,b,ta,tc,zs,pa,pc,_,c,.inr (.inr (.inr (.inr (.inr (.inl ⟨rfl,zA,rfl⟩))))),by rw[List.length_map],rfl,hc.withL zC (XI h.lb hX.size) (XH h.bl hX.size) (fun q hq=>XH (h.lts.1 q hq) hX.size) (fun z hz a n c e1 e2=>XH (h.lts.2.2 z hz a n c e1 e2) hX.size)⟩⟩
theorem TN (h:CT w base b ta pa la pc lc zs ps ls) (ha:Ia wd now given births (zs.map (·.1)) ps ls 2 num text refs):
 Calls prog 42 #[.agg #[XJ wd,XJ now,XJ given,XJ births,.slice ta zs.length tc,.slice pa ps.length pc,.slice la ls.length lc],.agg #[XJ 2,.string s,.string nm,XJ num,.string text,.slice ra refs.length rc]] w (Ly base (.slice la ls.length lc) wd now given births (zs.map (·.1)) ps ls 2 s nm num text refs w):=by
 have zB:(zs.map (·.1)).length<=1000:=by have:=ha.kso.len;omega
 by_cases hth:Au (zs.map (·.1)) s
 ·refine CW 2 86 _ wd now given births ta pa la zs.length tc ps.length pc ls.length lc s nm text num ra refs.length rc w [] (fun X e w'=>Uc X w' e wd now given births (.slice ta zs.length tc) (.slice la ls.length lc) ps nm s) _ (.inr (.inl ⟨rfl,rfl,rfl⟩)) (by simp) (fun X hX _=> ?_) ?_ ?_
  ·have h1:=Re wd now given births 2 num ta pa la ra tc pc lc ls.length refs.length rc (zs.map (·.1)) ps nm s text X (h.below hX).krow (h.below hX).prow zB (by have:=ha.np;omega) hth ha.psort
   rw[List.length_map] at h1;exact h1
  ·rintro X e w' ⟨hb,⟨_,rfl⟩|⟨_,g,c,rfl,_⟩⟩
   ·exact⟨Tn.of hb,_,_,_,_,_,_,_,_,_,_,_,_,_,_,_,_,_,_,rfl⟩
   ·exact⟨Tn.of hb,_,_,_,_,_,_,_,_,_,_,_,_,_,_,_,_,_,_,rfl⟩
  ·rintro X e w' zG hX hz ⟨hb,⟨zH,rfl⟩|⟨zC,g,c,rfl,ho⟩⟩ ht
   ·have hl:=Ja ps nm s
    have zF:¬∃x∈ps,x.name=nm:=fun hx=>by have:=hl.2 hx;have:=ha.np;omega
    exact⟨Tn.of (BO hX hb ht),.inl ⟨4,_,_,.inr ⟨rfl,rfl,.inl ⟨rfl,.inr ⟨hth,zF,by have:=hl.1;have:=ha.np;omega,rfl⟩⟩⟩,rfl⟩⟩
   ·have hB:=BO hX hb ht
    have hc:=h.below hB;have zE:=Do ho ht (by omega);have zA:(∃x∈ps,x.name=nm)∨ps.length<100:=by
     by_cases hx:∃x∈ps,x.name=nm
     ·exact .inl hx
     ·have:=Oj s hx
      exact .inr (by omega)
    exact⟨Tn.of hB,.inr ⟨⟨⟨#[]⟩,0,now,given,births,zs.map (·.1),Bi ps nm s,ls⟩,b,ta,tc,zs,_,c,la,lc,.inr (.inl ⟨rfl,hth,zA,rfl⟩),by rw[List.length_map],rfl,hc.withP zE (XI h.lb hX.size) (fun q hq=>XH (h.lts.2.1 q hq) hX.size)⟩⟩
 ·refine CW 2 86 _ wd now given births ta pa la zs.length tc ps.length pc ls.length lc s nm text num ra refs.length rc w [] (fun X e w'=>e=.returned (.agg (BT 2 ⟨#[]⟩ ⟨#[]⟩).toArray)/\Xz X w') _ (.inr (.inl ⟨rfl,rfl,rfl⟩)) (by simp) (fun X hX _=> ?_) ?_ ?_
  ·have h1:=Md wd now given births 2 num ta pa la ra tc ps.length pc ls.length lc refs.length rc (zs.map (·.1)) s nm text X (h.below hX).krow zB hth
   rw[List.length_map] at h1;exact h1
  ·rintro X e w' ⟨rfl,hb⟩
   exact⟨Tn.of hb,_,_,_,_,_,_,_,_,_,_,_,_,_,_,_,_,_,_,rfl⟩
  ·rintro X e w' zG hX hz ⟨rfl,hb⟩ ht
   exact⟨Tn.of (BO hX hb ht),.inl ⟨2,_,_,.inr ⟨rfl,rfl,.inl ⟨rfl,.inl ⟨hth,rfl⟩⟩⟩,rfl⟩⟩
theorem TO (h:CT w base b ta pa la pc lc zs ps ls) (ha:Ia wd now given births (zs.map (·.1)) ps ls 4 num text refs) (zX:∀k∈zs.map (·.1),k.refs.length<=30):
 Calls prog 42 #[.agg #[XJ wd,XJ now,XJ given,XJ births,.slice ta zs.length tc,.slice pa ps.length pc,.slice la ls.length lc],.agg #[XJ 4,.string s,.string nm,XJ num,.string text,.slice ra refs.length rc]] w (Ly base (.slice la ls.length lc) wd now given births (zs.map (·.1)) ps ls 4 s nm num text refs w):=by
 have yB:(zs.map (·.1)).length<=600:=ha.kso.len;refine Mc wd now given births ta pa la zs.length tc ps.length pc ls.length lc s nm text num ra refs.length rc w (Cy (zs.map (·.1)) s) (WM wd now given births num zs ps ls s) _ (fun X hX=> ?_) (fun h0 X hX hz=> ?_) ?_ ?_ ?_
 ·have h1:=Fb wd now given births ta tc (.slice pa ps.length pc) (.slice la ls.length lc) (zs.map (·.1)) s X X.heap.size (h.below hX).krow (XB) (by omega)
  rw[List.length_map] at h1;exact h1
 ·have zC:=h.below hX
  have h1:=Hf wd now given births ta pa la tc pc lc (zs.map (·.1)) ps ls X ⟨zC.krow,zC.prow,zC.lrow⟩ (fun A hA=>by
   rcases zC.tb with e|e
   ·rw[e] at hA
    cases hA;exact zC.z.some
   ·rw[e]
    intro i k hk;simp at hk) (IQ zC.po) (IQ zC.lo) yB ha.np ha.nl zX
  rw[List.length_map] at h1;refine h1.mono ?_;rintro e w' ⟨T,P',L',rs,rfl,hS,hv,hb⟩;obtain⟨b1,n1,zE,rfl⟩:=hv T (by simp);obtain⟨p1,n2,zF,rfl⟩:=hv P' (by simp);obtain⟨l1,n3,yD,rfl⟩:=hv L' (by simp);obtain⟨_,_,e1⟩:=Ay hS.things;obtain⟨_,_,e2⟩:=Ay hS.pins;obtain⟨_,_,e3⟩:=Ay hS.leases;cases e1;cases e2;cases e3;refine⟨⟨_,_,_,_,_,_,_,_,_,rfl,fun Y hY=> ?_⟩,hb⟩
  refine(Fv wd now given births (some ⟨b1,0,none⟩) (some ⟨p1,0,none⟩) (some ⟨l1,0,none⟩) _ zE ps.length zF yD X.heap.size ls s num Y (Ad hS.leases hY) (XI hb.size hY.size) (by have:=ha.nl;omega) ha.given0 ha.given1 ha.now0 ha.now1 ha.num0 ha.num1).mono ?_;rintro e w3 ⟨ht,zP⟩;have yH:X.heap.size<=l1:=(Ac hS.leases rfl).1
  have zZ:Below X.heap.size X w3:=(hb.trans (hY.mono hb.size)).trans (ht.below (XI hb.size hY.size) (by intro v hv;simp[Value.ownBlock] at hv;omega));refine⟨zZ,?_⟩;rcases zP with⟨zB,rfl⟩|⟨⟨zK,zH⟩,g,c,rfl,ho,zM⟩
  ·exact .inl ⟨by have:=ha.nl;have:=ha.given1;omega,rfl⟩
  ·have zI:=hS.nd
   rw[Fc] at zI;unfold Bn at zI;obtain⟨n1,n2,n3⟩:=TI zI (l:=l1) rfl;have zA:∀{e:TypeId} {size:Nat} {v:Value} {n:Nat} {xs:List Value},w'.ownsRow X.heap.size e size v n xs->v.ownBlock≠some l1->w3.ownsRow X.heap.size e size v n xs:=fun {e size v n xs} ho1 hne=>Ah (Ad ho1 hY) (fun q hq=>ht.block q (Ac (Ad ho1 hY) hq).2 (fun e=>by simp[Value.ownBlock] at e;exact hne (by rw[hq,e])))
   have zN:((zs.map (·.1)).zip rs).length=zs.length:=by rw[List.length_zip,hS.len,List.length_map];omega
   refine .inr ⟨⟨zK,zH⟩,b1,zE,(zs.map (·.1)).zip rs,p1,zF,g,c,by simp,?_,?_,?_,zA hS.pins n2,ho,?_,?_,?_⟩
   ·rw[List.map_fst_zip (by rw[hS.len];exact XB)]
   ·have h2:=zA hS.things n1
    rw[zN];rw[List.length_map] at h2;exact h2
   ·intro z hz
    obtain⟨i,hi⟩:=List.getElem?_of_mem hz;rw[List.getElem?_zip_eq_some] at hi;have hr:=hS.refs i z.1 z.2 hi.1 hi.2;obtain⟨g',n',c',e'⟩:=hv z.2 (by simp;exact .inr (.inr (.inr (XG hi.2))));obtain⟨a',yI,zU⟩:=Ay hr;rw[e'] at zU;cases zU;refine⟨g',c',e',zA hr (fun e=>n3 ?_)⟩;exact List.mem_filterMap.2 ⟨z.2,XG hi.2,e⟩
   ·have q1:=(Ac hS.things (g:=b1) rfl).2
    have q2:=hY.size;rcases zM with hh|hh
    ·have e1:l1=g:=by simpa [Value.ownBlock] using hh
     intro e;exact n1 (by simp[Value.ownBlock];omega)
    ·omega
   ·have q1:=(Ac hS.pins (g:=p1) rfl).2
    have q2:=hY.size;rcases zM with hh|hh
    ·have e1:l1=g:=by simpa [Value.ownBlock] using hh
     intro e;exact n2 (by simp[Value.ownBlock];omega)
    ·omega
   ·intro z hz a n' c' e2
    obtain⟨i,hi⟩:=List.getElem?_of_mem hz;rw[List.getElem?_zip_eq_some] at hi;have hr:=hS.refs i z.1 z.2 hi.1 hi.2;obtain⟨g',m',d',e3⟩:=hv z.2 (by simp;exact .inr (.inr (.inr (XG hi.2))));rw[e3] at e2;cases e2;have q1:=(Ac hr (g:=g') (by rw[e3];rfl)).2;have q2:=hY.size;show g'≠g;rcases zM with hh|hh
    ·have e1:l1=g:=by simpa [Value.ownBlock] using hh
     intro e;exact n3 (List.mem_filterMap.2 ⟨z.2,XG hi.2,by rw[e3];simp[Value.ownBlock];omega⟩)
    ·omega
 ·rintro X e w' hX ⟨hb,⟨_,rfl⟩|⟨_,b1,zE,zO,p1,zF,g,c,rfl,_⟩⟩
  ·exact⟨hb,_,_,_,_,_,_,_,_,_,_,_,_,_,_,_,_,_,_,rfl⟩
  ·exact⟨hb,_,_,_,_,_,_,_,_,_,_,_,_,_,_,_,_,_,_,rfl⟩
 ·intro yA w' hb
  have zG:¬Au (zs.map (·.1)) s:=fun ht=>by obtain⟨i,k,e,_⟩:=KG ht;omega
  exact⟨Tn.of hb,.inl ⟨2,_,_,.inr ⟨rfl,rfl,.inr (.inr (.inl ⟨rfl,.inl ⟨zG,rfl⟩⟩))⟩,rfl⟩⟩
 ·rintro h0 X e w' zT hX hz ⟨hb,hQ⟩ ht
  have zG:Au (zs.map (·.1)) s:=Classical.byContradiction fun hn=>by have:=GW hn;omega
  have hB:=BO hX hb ht;rcases hQ with⟨zB,rfl⟩|⟨⟨zK,zH⟩,b1,zE,zO,p1,zF,g,c,rfl,hm,hk,zW,yE,zP,zS,zJ,yF⟩
  ·exact⟨Tn.of hB,.inl ⟨4,_,_,.inr ⟨rfl,rfl,.inr (.inr (.inl ⟨rfl,.inr ⟨zG,zB,rfl⟩⟩))⟩,rfl⟩⟩
  ·have zR:=Do hk ht (by omega)
   have yC:=Do yE ht (by omega);have zV:=Do zP ht (by omega);have zY:BE zT b1 0 zO:=BE.own zR (fun z hz=>by
    obtain⟨g',c',e',ho⟩:=zW z hz;rw[e'] at ho;exact⟨⟨g',0,none⟩,c',e',Ae.own (Do ho ht (by omega))⟩)
   refine⟨Tn.of hB,.inr ⟨⟨⟨#[]⟩,given+1,now,given+1,births,zs.map (·.1),ps,ls++[⟨given+1,s,now+num⟩]⟩,b1,some ⟨b1,0,none⟩,zE,zO,some ⟨p1,0,none⟩,zF,some ⟨g,0,none⟩,c,.inr (.inr (.inr (.inl ⟨rfl,zG,zK,zH,rfl⟩))),by simp,hm,⟨.inl rfl,zY,(Ac zR rfl).2,yC.mono (XI h.lb hX.size),?_,XI h.lb hB.size,by simp[Value.ownBlock];exact zS,fun q hq e=> ?_,fun z hz a n c e1 _ e=> ?_,.inr (XI (XI h.lb hX.size) (Ac zR rfl).1),fun z hz a n c e1 _=> ?_⟩⟩⟩
   ·have h4:zT.ownsRow X.heap.size 137 3 (.slice (some ⟨g,0,none⟩) (ls++[(⟨given+1,s,now+num⟩:Ld)]).length c) (ls++[(⟨given+1,s,now+num⟩:Ld)]).length (Ab lC (ls++[(⟨given+1,s,now+num⟩:Ld)])):=by
     rw[List.length_append] at zV ⊢;exact zV
    exact h4.mono (XI h.lb hX.size)
   ·have e1:p1=q:=by simpa [Value.ownBlock] using hq
    have e2:g=q:=by simpa [Value.ownBlock] using e
    exact zJ (e1.trans e2.symm)
   ·have e2:a.block=g:=by simpa [Value.ownBlock] using e
    exact yF z hz a n c e1 e2
   ·obtain⟨g',c',e',yG⟩:=zW z hz
    rw[e'] at e1;cases e1;have q1:=(Ac yG (g:=g') (by rw[e'];rfl)).1;have q2:=h.lb;have q3:=hX.size;show base<=g';omega
theorem TP (h:CT w base b ta pa la pc lc zs ps ls) (ha:Ia wd now given births (zs.map (·.1)) ps ls 7 num text refs):
 Calls prog 42 #[.agg #[XJ wd,XJ now,XJ given,XJ births,.slice ta zs.length tc,.slice pa ps.length pc,.slice la ls.length lc],.agg #[XJ 7,.string s,.string nm,XJ num,.string text,.slice ra refs.length rc]] w (Ly base (.slice la ls.length lc) wd now given births (zs.map (·.1)) ps ls 7 s nm num text refs w):=by
 have zE:=ha.kso.len;have zI:zs.length<=600:=by rwa[List.length_map] at zE
 by_cases hth:Au (zs.map (·.1)) s
 ·obtain rfl:ta=some ⟨b,0,none⟩:=h.tb.resolve_right (fun e=>by obtain⟨u,hu,_⟩:=hth;rw[e] at hu;simp at hu)
  refine CW 7 91 _ wd now given births (some ⟨b,0,none⟩) pa la zs.length tc ps.length pc ls.length lc s nm text num ra refs.length rc w [] (fun X e w'=>OD X w' e wd now given births (.slice pa ps.length pc) (.slice la ls.length lc) zs ps ls s) _ (.inr (.inr (.inr (.inr (.inr (⟨rfl,rfl,rfl⟩)))))) (by simp) (fun X hX _=>Pw wd now given births b 0 tc pc lc pa la zs ps ls s X (h.below hX).z (h.below hX).bl (h.below hX).prow (h.below hX).lrow zI ha.np ha.nl (fun z hz=>(ha.kso.refs z.1 (List.mem_map.2 ⟨z,hz,rfl⟩)).1) hth) ?_ ?_
  ·rintro X e w' ⟨hb,⟨_,rfl⟩|⟨_,g,c,rfl,_⟩⟩
   ·exact⟨Tn.of hb,_,_,_,_,_,_,_,_,_,_,_,_,_,_,_,_,_,_,rfl⟩
   ·exact⟨Tn.of hb,_,_,_,_,_,_,_,_,_,_,_,_,_,_,_,_,_,_,rfl⟩
  ·rintro X e w' zH hX hz ⟨hb,⟨zB,rfl⟩|⟨zA,g,c,rfl,zF,zJ,zC⟩⟩ ht
   ·exact⟨Tn.of (BO hX hb ht),.inl ⟨6,_,_,.inr ⟨rfl,rfl,.inr (.inr (.inr (.inr (.inr ⟨rfl,.inr ⟨hth,zB,rfl⟩⟩))))⟩,rfl⟩⟩
   ·have hB:=BO hX hb ht
    have hc:=h.below hB;have zG:=zF.turn ht zC (by simp;omega) (fun z hz a n c e2 e3 hin=>by
     simp at hin;have:=h.z.refs_lt (List.mem_filter.1 hz).1 e2 e3;omega)
    exact⟨Tn.of hB,.inr ⟨⟨⟨#[]⟩,0,now,given,births,Ef (zs.map (·.1)) s,ps,ls⟩,g,_,c,BI zs s,pa,pc,la,lc,.inr (.inr (.inr (.inr (.inr (.inr ⟨rfl,hth,zA,rfl⟩))))),by simp[←Li],Li zs s,⟨.inl rfl,zG,XH zC ht.size,hc.po,hc.lo,hc.lb,fun e=>by have h1:=h.lts.2.1 g e.symm;have h2:=hX.size;omega,hc.pL,fun z hz=>hc.zL z (List.mem_filter.1 hz).1,.inr (by have h1:=h.lb;have h2:=hX.size;omega),fun z hz=>hc.zr z (List.mem_filter.1 hz).1⟩⟩⟩
 ·refine CW 7 91 _ wd now given births ta pa la zs.length tc ps.length pc ls.length lc s nm text num ra refs.length rc w [] (fun X e w'=>e=.returned (.agg (BT 2 ⟨#[]⟩ ⟨#[]⟩).toArray)/\Xz X w') _ (.inr (.inr (.inr (.inr (.inr (⟨rfl,rfl,rfl⟩)))))) (by simp) (fun X hX _=> ?_) ?_ ?_
  ·have h1:=KI wd now given births ta pa la tc ps.length pc ls.length lc (zs.map (·.1)) s X (h.below hX).krow (by omega) hth
   rw[List.length_map] at h1;exact h1
  ·rintro X e w' ⟨rfl,hb⟩
   exact⟨Tn.of hb,_,_,_,_,_,_,_,_,_,_,_,_,_,_,_,_,_,_,rfl⟩
  ·rintro X e w' zH hX hz ⟨rfl,hb⟩ ht
   exact⟨Tn.of (BO hX hb ht),.inl ⟨2,_,_,.inr ⟨rfl,rfl,.inr (.inr (.inr (.inr (.inr ⟨rfl,.inl ⟨hth,rfl⟩⟩))))⟩,rfl⟩⟩
theorem TQ (h:CT w base b ta pa la pc lc zs ps ls) (ha:Ia wd now given births (zs.map (·.1)) ps ls 1 num text refs) (hr:Ae w w.heap.size ra refs) (zT:ra=none->refs.length=0/\rc=0):
 Calls prog 42 #[.agg #[XJ wd,XJ now,XJ given,XJ births,.slice ta zs.length tc,.slice pa ps.length pc,.slice la ls.length lc],.agg #[XJ 1,.string s,.string nm,XJ num,.string text,.slice ra refs.length rc]] w (Ly base (.slice la ls.length lc) wd now given births (zs.map (·.1)) ps ls 1 s nm num text refs w):=by
 refine CW 1 85 _ wd now given births ta pa la zs.length tc ps.length pc ls.length lc s nm text num ra refs.length rc w (Value.slice la ls.length lc).ownBlock.toList (fun X e w'=>MS base b wd now given births num zs (.slice pa ps.length pc) (.slice la ls.length lc) ls text refs X e w') _ (.inl ⟨rfl,rfl,rfl⟩) (fun q hq=>h.lts.2.1 q (by simpa using hq)) (fun X hX _=>Rg base wd now given births 1 num ta b tc zs pa la ps.length pc lc ls s nm text refs ra rc X ⟨h.tb,zT,(h.below hX).z,(h.below hX).bl,Ad h.lo hX,XI h.lb hX.size,h.bL,h.zL,Ae.mono (Ae.below hr hX) hX.size,ha.kso,ha.w1,fun z hz=>ha.txt z.1 (List.mem_map.2 ⟨z,hz,rfl⟩),ha.txl,ha.rfn,ha.births0,ha.births1,ha.given0,ha.given1,ha.now0,ha.now1,ha.num0,ha.num1,ha.nl⟩) ?_ ?_
 ·rintro X e w' ⟨ht,⟨c,a,b',_,rfl⟩|⟨zF,births1,g,gc,zG,g2,c2,_,_,_,_,rfl,_⟩⟩
  ·exact⟨ht,_,_,_,_,_,_,_,_,_,_,_,_,_,_,_,_,_,_,rfl⟩
  ·exact⟨ht,_,_,_,_,_,_,_,_,_,_,_,_,_,_,_,_,_,_,rfl⟩
 ·rintro X e w' yD hX hz ⟨yC,hQ⟩ ht
  have zA:=yC;have hB:=Tn.fresh ((Tn.of hX).trans zA) ht (by omega);rcases hQ with⟨c,a,b',yB,rfl⟩|⟨zF,births1,g,gc,zG,g2,c2,zB,zE,zX,zS,rfl,hm,zW,zM,zI,zN,zK,ho,zP,zZ⟩
  ·exact⟨hB,.inl ⟨c,a,b',.inl ⟨rfl,yB⟩,rfl⟩⟩
  ·have zR:g≠w.heap.size+2:=by have:=h.bl;rcases zI with⟨e,_⟩|e<;>omega
   have yA:=zW.turn ht zM (by simp;exact zR) (fun z hz a n c e2 e3 hin=>by
    simp at hin;rcases zN z hz with zC|⟨zY,n',zU,e',zV⟩
    ·have:=h.z.refs_lt zC e2 e3
     omega
    ·rw[e2] at e'
     cases e';omega)
   have yF:g2≠w.heap.size+2:=by
    rcases zK with e|e
    ·have:=h.lts.2.1 g2 e
     omega
    ·omega
   have zJ:=Lz ho ht (by intro q hq;have:g2=q:=by simpa [Value.ownBlock] using hq
                         omega)
   have zH:=Ad h.po hX;have zO:=Lz (Ah zH (w':=w') (fun q hq=>zA.block q (Ac zH hq).2 (fun e=>h.pL q hq (by simpa using e)))) ht (by intro q hq;have:=h.lts.1 q hq;omega);have yE:=hX.size
   have h4:yD.ownsRow base 137 3 (.slice (some ⟨g2,0,none⟩) (ls++[(⟨given+1,Bd text refs wd,now+num⟩:Ld)]).length c2) (ls++[(⟨given+1,Bd text refs wd,now+num⟩:Ld)]).length (Ab lC (ls++[(⟨given+1,Bd text refs wd,now+num⟩:Ld)])):=by
    rw[List.length_append] at zJ ⊢;exact zJ
   refine⟨hB,.inr ⟨⟨Bd text refs wd,given+1,now,given+1,births1,zF,ps,ls++[⟨given+1,Bd text refs wd,now+num⟩]⟩,g,_,gc,zG,pa,pc,_,c2,.inl ⟨rfl,zB,zX,zS,zF,births1,zE,rfl⟩,by simp[←hm],hm,⟨.inl rfl,yA,XH zM ht.size,zO,h4,XI h.lb hB.size,by simp[Value.ownBlock];exact zP,fun q hq e=> ?_,fun z hz a n c e1 e2 e=> ?_,?_,fun z hz a n c e1 e2=> ?_⟩⟩⟩
   ·have e1:g2=q:=by simpa [Value.ownBlock] using e
    have:=h.lts.1 q hq;rcases zK with hk|hk
    ·exact h.pL q hq (by rw[hk,e1])
    ·omega
   ·have e3:a.block=g2:=by simpa [Value.ownBlock] using e
    exact zZ z hz a n c e1 e2 e3
   ·rcases zI with⟨e1,e2⟩|e1
    ·rw[e1,e2]
     exact h.zb
    ·exact .inr (by have:=h.lb;omega)
   ·rcases zN z hz with zC|⟨zY,n',zU,e',zV⟩
    ·exact h.zr z zC a n c e1 e2
    ·rw[e1] at e'
     cases e';have:=h.lb;omega
theorem Ok (kd:Int) (h:CT w base b ta pa la pc lc zs ps ls) (ha:Ia wd now given births (zs.map (·.1)) ps ls kd num text refs) (zA:∀k∈zs.map (·.1),k.refs.length<=30) (hr:Ae w w.heap.size ra refs) (zB:ra=none->refs.length=0/\rc=0):
 Calls prog 42 #[.agg #[XJ wd,XJ now,XJ given,XJ births,.slice ta zs.length tc,.slice pa ps.length pc,.slice la ls.length lc],.agg #[XJ kd,.string s,.string nm,XJ num,.string text,.slice ra refs.length rc]] w (Ly base (.slice la ls.length lc) wd now given births (zs.map (·.1)) ps ls kd s nm num text refs w):=by
 obtain rfl|rfl|rfl|rfl|rfl|rfl|rfl:kd=1∨kd=2∨kd=3∨kd=4∨kd=5∨kd=6∨kd=7:=by have:=ha.kd1;have:=ha.kd7;omega
 ·exact TQ base wd now given births b ta pa la tc pc lc zs ps ls s nm text num refs ra rc w h ha hr zB
 ·exact TN base wd now given births b ta pa la tc pc lc zs ps ls s nm text num refs ra rc w h ha
 ·exact TJ base wd now given births b ta pa la tc pc lc zs ps ls s nm text num refs ra rc w h ha
 ·exact TO base wd now given births b ta pa la tc pc lc zs ps ls s nm text num refs ra rc w h ha zA
 ·exact TL base wd now given births b ta pa la tc pc lc zs ps ls s nm text num refs ra rc w h ha
 ·exact TM base wd now given births b ta pa la tc pc lc zs ps ls s nm text num refs ra rc w h ha
 ·exact TP base wd now given births b ta pa la tc pc lc zs ps ls s nm text num refs ra rc w h ha
end
end
theorem TR {w:World} {base:Nat} {ra:Option Addr} {rc:Nat} {ss:List ByteArray} (h:w.ownsRow base 9 1 (.slice ra ss.length rc) ss.length (ss.map Value.string)):Ae w w.heap.size ra ss/\(ra=none->ss.length=0/\rc=0):=by
 rcases h.2 with⟨hv,h0⟩|⟨g,cap,zB,hv,_,_,zA,_⟩
 ·injection hv with e1 e2 e3
  subst e1;exact⟨.inl (List.eq_nil_of_length_eq_zero h0),fun _=>⟨h0,e3⟩⟩
 ·cases hv
  exact⟨Ae.own h,fun e=>by cases e⟩
theorem CT.low {w w':World} {base b:Nat} {ta pa la:Option Addr} {pc lc:Nat} {zs:List (Kd×Value)} {ps:List Pd} {ls:List Ld} (h:CT w base b ta pa la pc lc zs ps ls) {V:List Nat} (ht:Tn V w w') (hV:∀q∈V,q<base):CT w' base b ta pa la pc lc zs ps ls:=by
 have ho:∀{e:TypeId} {size:Nat} {v:Value} {n:Nat} {xs:List Value},w.ownsRow base e size v n xs->w'.ownsRow base e size v n xs:=fun h=>Ah h (fun g hg=>ht.block g (Ac h hg).2 (fun e=>by have h1:=hV g e;have h2:=(Ac h hg).1;omega));refine⟨h.tb,?_,XH h.bl ht.size,ho h.po,ho h.lo,XI h.lb ht.size,h.bL,h.pL,h.zL,h.zb,h.zr⟩;rcases h.zb with e|e
 ·rw[e]
  intro i z hz;simp at hz
 ·exact h.z.turn ht h.bl (fun hin=>by have:=hV b hin;omega) (fun z hz a n c e1 e2 hin=>by have h1:=hV _ hin;have h2:=h.zr z hz a n c e1 e2;omega)
theorem Wp {w:World} {b:Nat} {z0 z1 z2 z3 z4 z5 z6:Value} (h:Aa w b [z0,z1,z2,z3,z4,z5,z6]) (a0 a1 a2 a3 a4 a5 a6:Value):Aa (((((((w.setCell (XL b 0) a0).setCell (XL b 1) a1).setCell (XL b 2) a2).setCell (XL b 3) a3).setCell (XL b 4) a4).setCell (XL b 5) a5).setCell (XL b 6) a6) b [a0,a1,a2,a3,a4,a5,a6]:=
 ((((((h.set 0 a0).set 1 a1).set 2 a2).set 3 a3).set 4 a4).set 5 a5).set 6 a6
theorem VS (w:World) (R:Nat) (a0 a1 a2 a3 a4 a5 a6:Value):Tn [R] w (((((((w.setCell (XL R 0) a0).setCell (XL R 1) a1).setCell (XL R 2) a2).setCell (XL R 3) a3).setCell (XL R 4) a4).setCell (XL R 5) a5).setCell (XL R 6) a6):=
 ((((((DR _ _ _ _).trans (DR _ _ _ _)).trans (DR _ _ _ _)).trans (DR _ _ _ _)).trans (DR _ _ _ _)).trans (DR _ _ _ _)).trans (DR _ _ _ _)
theorem Jf (wd:Int) (a:Option Addr) (cap:Nat) (xs:List ByteArray) (w:World) (zT:Ae w w.heap.size a xs) (hl:xs.length<=1048576) (hs:∀s∈xs,s.size<=1048576):
 Calls prog 10 #[XJ wd,.slice a xs.length cap] w (WK wd xs w):=by
 obtain⟨W,hW⟩:∃W,W=w.alloc (.cells #[XK,XK,XK,XK,XK,XN,XN,XN,XM,XK,XM,XM] 30):=⟨_,rfl⟩;have bW:=(Aq hW).1;have zW:=(Aq hW).2.1;have xW:=(Aq hW).2.2;have HW:Hid _:=hW;have HI:=GZ wd W;obtain⟨⟨y0,q0⟩,⟨y1,q1⟩,⟨y2,q2⟩,⟨y3,q3⟩,⟨y4,q4⟩,⟨y5,q5⟩,⟨y6,q6⟩,⟨y7,q7⟩,⟨y8,q8⟩,⟨y9,q9⟩,⟨zG,yB⟩,zI,zX⟩:=AS xW;clear hW;by_cases hwd:1<=wd/\wd<=8
 ·rw[decide_eq_true hwd] at HI
  by_cases hlen:xs.length<=4000
  ·have xQ:decide ((4000:Int)<xs.length)=false:=by simp;omega
   obtain⟨A,hA⟩:∃A,A=W.alloc (.cells #[XJ wd,XK,XK,XK,XN,XN,XN] 28):=⟨_,rfl⟩;have bA:=(Aq hA).1;have zA:A.heap.size=w.heap.size+2:=by rw[hA];simp;omega
   have sA:Aa A (w.heap.size+1) [XJ wd,XK,XK,XK,XN,XN,XN]:=by rw[hA,←zW];exact Aa.new W _ _
   have xA:=Aa.below (v:=XK) xW bA;have xS:=bW.trans (bA.mono bW.size);have zS:CT A (w.heap.size+2) w.heap.size none none none 0 0 [] [] []:=⟨.inr rfl,fun i z hz=>by simp at hz,by omega,⟨rfl,.inl ⟨rfl,rfl⟩⟩,⟨rfl,.inl ⟨rfl,rfl⟩⟩,by omega,by simp[Value.ownBlock],fun q hq=>by simp[Value.ownBlock] at hq,fun z hz=>by simp at hz,.inl rfl,fun z hz=>by simp at hz⟩;have zJ:Hid _:=HI;have HA:Hid _:=hA
   have H0:Hid _:=And.intro sA (And.intro xA (And.intro zS xS));have yF:Hid (Ae w w.heap.size a xs):=zT;clear HI hA sA xA zS bA zT;go_enter func10,ntmps10;go_wp2_with fail;rw[←HW.o];refine Calls.mono zJ.o ?_;rintro e w1 ⟨rfl,zE⟩;replace zE:=zE.symm;subst zE;clear zJ;go_upto_region 4 with fail;rw[←HA.o];clear HA y0 y1 y2 y3 y4 y5 y6 y7 y8 y9 zG zI q0 q1 q2 q3 q4 q5 q6 q7 q8 q9 yB zX;go_wp2
   go_loopw [6] (fun i wr=>∃(k:Nat) (r:Rs) (b:Nat) (ta pa la:Option Addr) (tc pc lc:Nat) (zs:List (Kd×Value)),k<=xs.length/\i=XJ k/\Hid (Aa wr (w.heap.size+1) [XJ wd,XJ r.now,XJ r.given,XJ r.births,.slice ta zs.length tc,.slice pa r.ps.length pc,.slice la r.ls.length lc]/\Aa wr w.heap.size As/\CT wr (w.heap.size+2) b ta pa la pc lc zs r.ps r.ls/\zs.map (·.1)=r.ks/\CV wd r0 (xs.take k) r/\Xz w wr)) (fun i _=>xs.length -(intOf i).toNat)
   case atStart=>exact⟨0,r0,w.heap.size,none,none,none,0,0,0,[],Nat.zero_le _,rfl,⟨H0.o.1,H0.o.2.1,H0.o.2.2.1,rfl,rfl,H0.o.2.2.2⟩⟩
   case round=>
    clear H0;obtain⟨k,r,b,ta,pa,la,tc,pc,lc,zs,hk,rfl,HI⟩:=hrel;obtain⟨yX,yZ,zS,zC,zB,zH⟩:=HI.o;by_cases hlt:k<xs.length
    ·obtain⟨rb,xJ,ha,xY,yL⟩:=((yF.o.below zH).mono zH.size).at hlt
     subst ha;have HG:Hid _:=XD hlt;have xL:=hs _ (List.getElem_mem hlt);have c0:=yL k _ HG.o;have xF:Hid _:=XE hlt;clear yL;generalize xs[k]=s at *
     have HR:Hid _:=PT s wd wr xL;clear yX yZ zS zC zB zH;go_wp2_with fail;refine Calls.mono HR.o ?_;rintro e w2 ⟨v,rfl,xD,yY⟩;obtain⟨ra,rc,rfl⟩:=Ay xD;obtain⟨w3,zZ⟩:∃X,X=w2.alloc (.cells #[XJ (AA s wd).k,.string (AA s wd).sum,.string (AA s wd).name,XJ (AA s wd).n,.string (AA s wd).t,.slice ra (AA s wd).ss.length rc] 77):=⟨_,rfl⟩;have yP:=(Aq zZ).1;have b3:=yY.trans (yP.mono yY.size)
     have e3:=(Aq zZ).2.2;have s3:=Aa.below HI.o.1 b3;have x3:=Aa.below (v:=XK) HI.o.2.1 b3;have zY:=HI.o.2.2.1.below b3;have zO:Hid _:=HI.o.2.2.2.2.2.trans (b3.mono HI.o.2.2.2.2.2.size);have zU:=TR (Ad xD yP);have yE:Hid _:=zZ;have xV:(k:Int)<=4000:=by omega
     clear zZ HR;cases hok:(AA s wd).ok with
     |false=>
      obtain⟨⟨y0,q0⟩,⟨y1,q1⟩,⟨y2,q2⟩,⟨y3,q3⟩,⟨y4,q4⟩,⟨y5,q5⟩,⟨y6,q6⟩,⟨y7,q7⟩,⟨y8,q8⟩,⟨y9,q9⟩,⟨zG,yB⟩,zI,zX⟩:=AS x3;clear e3 s3 zY zU c0 x3;go_upto_region 8 with fail;rw[←yE.o];go_wp2;refine bodyPost_ret (v:=.agg #[XJ 7,XK,XK,XK,XK,XN,XN,XN,XM,XJ ((k:Int)+1),XM,XM]) (by simp[results,results10,go_sem,y0,y1,y2,y3,y4,y5,y6,y7,y8,y9,zG,zI]) rfl ?_
      exact⟨⟨7,0,0,0,0,((k+1:Nat):Int),⟨#[]⟩,⟨#[]⟩,⟨#[]⟩,[],[],[]⟩,_,_,_,[],.inr ⟨⟨hwd,hlen⟩,.inl ⟨k+1,⟨k,r,s,rfl,HG.o,HI.o.2.2.2.2.1,.inl hok⟩,rfl⟩⟩,rfl,Qa _ _,zO.o.trans ((Bc w3 w.heap.size _ _ _ _ _ _ _ _ _ _ _ _).below zO.o.size (by simp))⟩
     |true=>
      have yM:=(IA hok).1;have zK:=HI.o.2.2.2.2.1.ok (Fy hwd.1 hwd.2);have zC:=HI.o.2.2.2.1;have zR:Ia wd r.now r.given r.births (zs.map (·.1)) r.ps r.ls (AA s wd).k (AA s wd).n (AA s wd).t (AA s wd).ss:=by
       rw[zC];exact FK.aok zK yM (by have:=Nh yM;unfold maxLen;omega)
      have yN:Hid _:=Ok (w.heap.size+2) wd r.now r.given r.births b ta pa la tc pc lc zs r.ps r.ls (AA s wd).sum (AA s wd).name (AA s wd).t (AA s wd).n (AA s wd).ss ra rc w3 (AA s wd).k zY zR (by rw[zC];exact zK.r30) zU.1 zU.2;obtain⟨v0,v1,v2,v3,v4,v5,v6⟩:=Aa.c7 s3 0 1 2 3 4 5 6;obtain⟨u0,u1,u2,u3,u4,u5⟩:=Aa.c6 e3 0 1 2 3 4 5;have xO:Hid _:=s3;have xK:Hid _:=x3;have yO:Hid _:=zY
      clear e3 s3 zY zU c0 x3 zR;go_upto_region 8 with fail;rw[←yE.o];clear yE;go_wp2_with fail;refine Calls.mono yN.o ?_;rintro e w4 ⟨ht,hQ⟩;have yH:∀q∈(Value.slice la r.ls.length lc).ownBlock.toList,w.heap.size+2<=q:=fun q hq=>(Ac yO.o.lo (by simpa using hq)).1;have yD:=ht.below yO.o.lb yH;have x4:=Aa.same xK.o (yD.block _ (by omega));have s4:=Aa.same xO.o (yD.block _ (by omega))
      have yA:Hid _:=zO.o.trans (yD.mono (by omega));clear v0 v1 v2 v3 v4 v5 v6 u0 u1 u2 u3 u4 u5 yN ht;rcases hQ with⟨c,a',b',yC,rfl⟩|⟨r',b1,yK,yQ,yS,xC,yW,yR,yU,hy,rfl,hm,hC⟩
      ·rw[zC] at yC
       have xX:(c !=0)=true:=by have:=yC.code;simp;omega
       have xR:Hid _:=yC;have xB:(BT c a' b').toArray= #[XJ c,XK,XK,XK,XK,XN,XN,XN,XM,XK,.string a',.string b']:=rfl;rw[xB];obtain⟨w5,zF⟩:∃X,X=w4.alloc (.cells #[XJ c,XK,XK,XK,XK,XN,XN,XN,XM,XK,.string a',.string b'] 30):=⟨_,rfl⟩;have zN:=(Aq zF).1;have n5:=(Aq zF).2.2;have zP:Hid _:=yA.o.trans (zN.mono yA.o.size)
       obtain⟨⟨y0,q0⟩,⟨y1,q1⟩,⟨y2,q2⟩,⟨y3,q3⟩,⟨y4,q4⟩,⟨y5,q5⟩,⟨y6,q6⟩,⟨y7,q7⟩,⟨y8,q8⟩,⟨y9,q9⟩,⟨zG,yB⟩,zI,zX⟩:=AS (Aa.below (v:=XK) x4 zN);obtain⟨m0,_⟩:=n5 0 _ rfl;have zV:Hid _:=zF;clear zF yC n5 x4 s4 xB;go_upto_region 11 with fail;rw[←zV.o];go_wp2
       refine bodyPost_ret (v:=.agg #[XJ 7,XK,XK,XK,XK,XN,XN,XN,XM,XJ ((k:Int)+1),XM,XM]) (by simp[results,results10,go_sem,y0,y1,y2,y3,y4,y5,y6,y7,y8,y9,zG,zI]) rfl ?_
       exact⟨⟨7,0,0,0,0,((k+1:Nat):Int),⟨#[]⟩,⟨#[]⟩,⟨#[]⟩,[],[],[]⟩,_,_,_,[],.inr ⟨⟨hwd,hlen⟩,.inl ⟨k+1,⟨k,r,s,rfl,HG.o,HI.o.2.2.2.2.1,.inr ⟨c,a',b',xR.o⟩⟩,rfl⟩⟩,rfl,Qa _ _,zP.o.trans ((Bc w5 w.heap.size _ _ _ _ _ _ _ _ _ _ _ _).below zP.o.size (by simp))⟩
      ·rw[zC] at hy
       obtain⟨w5,zF⟩:∃X,X=w4.alloc (.cells #[XK,XJ wd,XJ r'.now,XJ r'.given,XJ r'.births,.slice yK r'.ks.length yQ,.slice xC r'.ps.length yW,.slice yR r'.ls.length yU,.string r'.sm,XJ r'.le,XM,XM] 30):=⟨_,rfl⟩;have zN:=(Aq zF).1;have n5:=(Aq zF).2.2;have s5:=Aa.below s4 zN;have x5:=Aa.below (v:=XK) x4 zN;have yI:=hC.below zN;have yT:Hid _:=yA.o.trans (zN.mono yA.o.size)
       have yV:r'.ks.length=yS.length:=by rw[←hm,List.length_map]
       have H5:Hid _:=And.intro s5 (And.intro x5 (And.intro yI (And.intro hm (And.intro hy yV))));obtain⟨⟨v0,p0⟩,⟨v1,p1⟩,⟨v2,p2⟩,⟨v3,p3⟩,⟨v4,p4⟩,⟨v5,p5⟩,v6,p6⟩:=(⟨s5 0 _ rfl,s5 1 _ rfl,s5 2 _ rfl,s5 3 _ rfl,s5 4 _ rfl,s5 5 _ rfl,s5 6 _ rfl⟩:(_/\_)/\(_/\_)/\(_/\_)/\(_/\_)/\(_/\_)/\(_/\_)/\_/\_);obtain⟨m0,m1,m2,m3,m4,m5,m6⟩:=Aa.c7 n5 0 1 2 3 4 5 6;obtain⟨m7,_⟩:=n5 7 _ rfl;have zV:Hid _:=zF
       have yG:Hid (CV wd r0 (xs.take (k+1)) r'):=by
        show CV _ _ _ _;rw[xF.o];exact HI.o.2.2.2.2.1.snoc ⟨hok,hy⟩
       have xP:=yI.lb;clear zF hy n5 x4 s4 s5 x5 hC yI yV hm;go_upto_region 11 with fail;rw[←zV.o];clear zV;go_wp2
       refine⟨⟨k+1,r',b1,yK,xC,yR,yQ,yW,yU,yS,by omega,by go_num,⟨?_,Aa.same H5.o.2.1 ((VS w5 (w.heap.size+1) _ _ _ _ _ _ _).block _ (by omega) (by simp)),H5.o.2.2.1.low (VS w5 (w.heap.size+1) _ _ _ _ _ _ _) (by simp),H5.o.2.2.2.1,yG.o,yT.o.trans ((VS w5 (w.heap.size+1) _ _ _ _ _ _ _).below yT.o.size (by simp))⟩⟩,by simp[intOf];omega⟩;rw[←H5.o.2.2.2.2.2];exact Wp H5.o.1 _ _ _ _ _ _ _
    ·obtain rfl:k=xs.length:=by omega
     have zB:=HI.o.2.2.2.2.1;rw[XF (XB)] at zB;have zK:=zB.ok (Fy hwd.1 hwd.2);have zC:=HI.o.2.2.2.1;have zM:=HI.o.2.2.1;have h1:=Hf wd r.now r.given r.births ta pa la tc pc lc (zs.map (·.1)) r.ps r.ls wr ⟨zM.krow,zM.prow,zM.lrow⟩ (fun B hB=>by
      rcases zM.tb with e|e
      ·rw[e] at hB
       cases hB;exact zM.z.some
      ·rw[e]
       intro i k hk;simp at hk) (IQ zM.po) (IQ zM.lo) (by rw[zC];exact zK.kso.len) zK.np zK.nl (by rw[zC];exact zK.r30)
     rw[List.length_map,zC] at h1;have HC:Hid _:=h1;have xN:Hid _:=zB;obtain⟨v0,v1,v2,v3,v4,v5,v6⟩:=Aa.c7 HI.o.1 0 1 2 3 4 5 6;clear h1 zB zK zC zM yX yZ zS zH;go_wp2_with fail;refine Calls.mono HC.o ?_;rintro e w4 ⟨T,P',L',rs,rfl,hS,_,yJ⟩;obtain⟨xU,xI,rfl⟩:=Ay hS.things;obtain⟨xT,xG,rfl⟩:=Ay hS.pins;obtain⟨xM,xE,rfl⟩:=Ay hS.leases;have x4:=Aa.below (v:=XK) HI.o.2.1 yJ;have xH:=HI.o.2.1.lt
     have HF:Hid _:=And.intro hS yJ;obtain⟨⟨y0,q0⟩,⟨y1,q1⟩,⟨y2,q2⟩,⟨y3,q3⟩,⟨y4,q4⟩,⟨y5,q5⟩,⟨y6,q6⟩,⟨y7,q7⟩,⟨y8,q8⟩,⟨y9,q9⟩,⟨zG,yB⟩,zI,zX⟩:=AS x4;clear hS yJ HC x4 v0 v1 v2 v3 v4 v5 v6;go_wp2
     refine bodyPost_ret (v:=.agg #[XK,XJ wd,XJ r.now,XJ r.given,XJ r.births,.slice xU r.ks.length xI,.slice xT r.ps.length xG,.slice xM r.ls.length xE,XM,XK,XM,XM]) (by simp[results,results10,go_sem,y0,y1,y2,y3,y4,y5,y6,y7,y8,y9,zG,zI]) rfl ?_;have zH:=HI.o.2.2.2.2.2
     refine⟨⟨0,wd,r.now,r.given,r.births,0,⟨#[]⟩,⟨#[]⟩,⟨#[]⟩,r.ks,r.ps,r.ls⟩,_,_,_,rs,.inr ⟨⟨hwd,hlen⟩,.inr ⟨r,xN.o,rfl⟩⟩,rfl,(HF.o.1.turn (Bc w4 w.heap.size _ _ _ _ _ _ _ _ _ _ _ _) (by simp;exact xH)).mono zH.size,?_⟩;exact(zH.trans (HF.o.2.mono zH.size)).trans ((Bc w4 w.heap.size _ _ _ _ _ _ _ _ _ _ _ _).below (XI zH.size HF.o.2.size) (by simp))
  ·have xQ:decide ((4000:Int)<xs.length)=true:=by simp;omega
   have zJ:Hid _:=HI;clear HI;go_enter func10,ntmps10;go_wp2_with fail;rw[←HW.o];refine Calls.mono zJ.o ?_;rintro e w1 ⟨rfl,zE⟩;replace zE:=zE.symm;subst zE;clear zJ;go_wp2;refine bodyPost_ret (v:=.agg #[XJ 1,XK,XK,XK,XK,XN,XN,XN,XM,XK,XM,XM]) (by simp[results,results10,go_sem,y0,y1,y2,y3,y4,y5,y6,y7,y8,y9,zG,zI]) rfl ?_
   exact⟨⟨1,0,0,0,0,0,⟨#[]⟩,⟨#[]⟩,⟨#[]⟩,[],[],[]⟩,_,_,_,[],.inl ⟨fun h=>hlen h.2,rfl⟩,rfl,Qa _ _,bW.trans ((Bc W w.heap.size _ _ _ _ _ _ _ _ _ _ _ _).below bW.size (by simp))⟩
 ·rw[decide_eq_false hwd] at HI
  have zJ:Hid _:=HI;clear HI;go_enter func10,ntmps10;go_wp2_with fail;rw[←HW.o];refine Calls.mono zJ.o ?_;rintro e w1 ⟨rfl,zE⟩;replace zE:=zE.symm;subst zE;clear zJ;go_wp2;refine bodyPost_ret (v:=.agg #[XJ 1,XK,XK,XK,XK,XN,XN,XN,XM,XK,XM,XM]) (by simp[results,results10,go_sem,y0,y1,y2,y3,y4,y5,y6,y7,y8,y9,zG,zI]) rfl ?_
  exact⟨⟨1,0,0,0,0,0,⟨#[]⟩,⟨#[]⟩,⟨#[]⟩,[],[],[]⟩,_,_,_,[],.inl ⟨fun h=>hwd h.1,rfl⟩,rfl,Qa _ _,bW.trans ((Bc W w.heap.size _ _ _ _ _ _ _ _ _ _ _ _).below bW.size (by simp))⟩
end Go.Proofs.YtpekbmegopfhfaaGreatDoor
