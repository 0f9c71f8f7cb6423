import Derived.Test.YtmjlkgpekcnacaaGreatX13
import Derived.Test.YtmjlkgpekcnacaaGreatX06
set_option maxRecDepth 100000
set_option maxHeartbeats 16000000
namespace Go.Proofs.YtmjlkgpekcnacaaGreat
open Go.ChangeShapes Go.WideShapes Go.ChangeAt Go.RowKit _root_.Go.Proofs.Tryz
variable{n g c base size q b pc lc o:Nat}{w w' X:Zh}{e t:TypeId}{v:Vd}{ps:List Pd}{T P L:Value}{ta pa la:Zk}{ls:List Ld}
section
structure CT (w:Zh) (base b:Nat) (ta pa la:Zk) (pc lc:Nat) (zs:List (Kd×Value)) (ps:List Pd) (ls:List Ld):Prop where
 tb:ta=some ⟨b,0,none⟩\/zs=[]
 z:Bf w b 0 zs
 bl:b<w.heap.size
 po:w.ownsRow base 58 2 (.slice pa ps.length pc) ps.length (Ai pC ps)
 lo:w.ownsRow base 61 3 (.slice la ls.length lc) ls.length (Ai lC ls)
 lb:base<=w.heap.size
 bL:some b≠(Value.slice la ls.length lc).ownBlock
 pL:∀g,(Value.slice pa ps.length pc).ownBlock=some g->(Value.slice la ls.length lc).ownBlock≠some g
 zL:∀z∈zs,∀ad n rc,z.2=.slice (some ad) n rc->z.1.B≠[]->some ad.block≠(Value.slice la ls.length lc).ownBlock
 zb:zs=[]\/base<=b
 zr:∀z∈zs,∀ad n rc,z.2=.slice (some ad) n rc->z.1.B≠[]->base<=ad.block
def MI(base:Nat)(L:Value)(wd now given births:Int)(ks:List Kd)(ps:List Pd)(ls:List Ld)(kd:Int)(s nm:Zi)(num:Int)(text:Zi)(refs:Zl)(w:Zh)(e:Ending)(w':Zh):Prop:=
 Tn L.ownBlock.toList w w'/\(
  (∃c a b,FW wd now given births ks ps ls kd s nm num text refs c a b/\e=.returned (.agg (Co c a b).toArray))\/
  (∃r b1 ta1 tc1 zs1 pa1 pc1 la1 lc1,Ep wd now given births ks ps ls kd s nm num text refs r/\e=.returned (.agg #[Ze,Zg wd,Zg r.D,Zg r.G,Zg r.C,.slice ta1 r.ks.length tc1,.slice pa1 r.ps.length pc1,.slice la1 r.ls.length lc1,.string r.sm,Zg r.le,Zc,Zc])/\zs1.map (·.1)=r.ks/\CT w' base b1 ta1 pa1 la1 pc1 lc1 zs1 r.ps r.ls))
section
variable {w w':Zh} {base b:Nat} {ta pa la:Zk} {pc lc:Nat} {zs:List (Kd×Value)} {ps:List Pd} {ls:List Ld}
theorem CT.below(h:CT w base b ta pa la pc lc zs ps ls)(a:Zz w w'):CT w' base b ta pa la pc lc zs ps ls:=
 ⟨h.tb,h.z.below a h.bl,Zr h.bl a.size,Ap h.po a,Ap h.lo a,Zm h.lb a.size,h.bL,h.pL,h.zL,h.zb,h.zr⟩
theorem CT.ct(h:CT w base b ta pa la pc lc zs ps ls):AI w w.heap.size ta (zs.map (·.1)):=by
 rcases h.tb with e|e
 .rw[e];exact h.z.ct h.bl
 .rw[e];exact .inl rfl
theorem CT.fp(h:CT w base b ta pa la pc lc zs ps ls):AO w w.heap.size pa ps:=AO.own h.po
theorem CT.fs(h:CT w base b ta pa la pc lc zs ps ls):AR w w.heap.size la ls:=AR.own h.lo
theorem CT.gw(h:CT w base b ta pa la pc lc zs ps ls){a:List Pd}(d:w.ownsRow n 58 2 (Yz g a.length c) a.length (Ai pC a))(i:base<=n)(f:∀q,(Value.slice la ls.length lc).ownBlock=some q->q<n):CT w base b ta (some ⟨g,0,none⟩) la c lc zs a ls:=
 ⟨h.tb,h.z,h.bl,d.mono i,h.lo,h.lb,h.bL,fun q j e=>by have k:=(Ad d j).1;have l:=f q e;omega,h.zL,h.zb,h.zr⟩
theorem CT.gx(h:CT w base b ta pa la pc lc zs ps ls){a:List Ld}(f:w.ownsRow n 61 3 (Yz g a.length c) a.length (Ai lC a))(o:base<=n)(v:b<n)(r:∀q,(Value.slice pa ps.length pc).ownBlock=some q->q<n)(u:∀z∈zs,∀d m rc,z.2=.slice (some d) m rc->z.1.B≠[]->d.block<n):CT w base b ta pa (some ⟨g,0,none⟩) pc c zs ps a:=by
 have x:=(Ad f (g:=g) rfl).1;refine⟨h.tb,h.z,h.bl,h.po,f.mono o,h.lb,fun e=> ?_,fun q t e=> ?_,fun z i d m rc j k e=> ?_,h.zb,h.zr⟩
 .have:b=g:=by simpa [Value.ownBlock]using e
  omega
 .have l:g=q:=by simpa [Value.ownBlock]using e
  have:=r q t;omega
 .have l:d.block=g:=by simpa [Value.ownBlock]using e
  have:=u z i d m rc j k;omega
theorem CT.di(h:CT w base b ta pa la pc lc zs ps ls):(∀q,(Value.slice pa ps.length pc).ownBlock=some q->q<w.heap.size)/\(∀q,(Value.slice la ls.length lc).ownBlock=some q->q<w.heap.size)/\∀z∈zs,∀c m rc,z.2=.slice (some c) m rc->z.1.B≠[]->c.block<w.heap.size:=
 ⟨fun _ a=>(Ad h.po a).2,fun _ a=>(Ad h.lo a).2,fun _ f _ _ _ d e=>h.z.bz f d e⟩
theorem Dy{a:Zk}{m:Nat}{i:Zj}(h:w.ownsRow base e size (.slice a m c) n i)(f:a=none):c=0:=by
 rcases h.2 with⟨d,_⟩|⟨g,cap,j,d,_⟩
 .injection d
 .injection d with e1;rw[f]at e1;cases e1
end
theorem DC{v:Value}{c:Zj}(h:w.ownsRow base e size v n c)(d:Tn [q] w w')(f:q<base):w'.ownsRow base e size v n c:=
 As h (fun g a=>d.block g (Ad h a).2 (by have:=(Ad h a).1;simp;omega))
theorem MJ{v:Value}{c:Zj}(h:w.ownsRow base e size v n c)(f:Tn [q] w w')(d:∀g,v.ownBlock=some g->g≠q):w'.ownsRow base e size v n c:=
 As h (fun g a=>f.block g (Ad h a).2 (by simp;exact d g a))
theorem BY{a:Zh}(c:Zz w X)(d:Zz X w')(e:Tn [w.heap.size+2] w' a):Below w.heap.size w a:=
 (c.trans (d.mono c.size)).trans (e.below (Zm c.size d.size) (by intro v f;simp at f;omega))
theorem MW(wd now given births f num:Int)(ta pa la ra:Zk)(tc pn pc g lc h rc:Nat)(a:List Kd)(s nm text:Zi)(w:Zh)(k:AI w w.heap.size ta a)(U:a.length<=1000)(l:¬Aw a s):
 Calls prog 124 #[.agg (Yj wd now given births ta a.length tc pa pn pc la g lc),.agg (Ye f s nm num text ra h rc)] w fun e w'=>e=.returned (.agg (Co 2 ⟨#[]⟩ ⟨#[]⟩).toArray)/\Zz w w':=by
 obtain⟨W,c⟩:∃W,W=((w.alloc (.cells (Yj wd now given births ta a.length tc pa pn pc la g lc) 27)).alloc (.cells (Ye f s nm num text ra h rc) 162)).alloc (.cells Yi 134):=⟨_,rfl⟩;have i:=(CZ c).1;have q:=(CZ c).2.2.1;have t:Aa W (w.heap.size+1) (Yd f s nm num text ra h rc):=by have d:=Aa.new (w.alloc (.cells (Yj wd now given births ta a.length tc pa pn pc la g lc) 27)) (Yd f s nm num text ra h rc) 162;rw[World.size_alloc]at d;rw[c];exact Aa.below d (Zy)
 have r:Aa W (w.heap.size+2) z12:=by have d:=Aa.new ((w.alloc (.cells (Yj wd now given births ta a.length tc pa pn pc la g lc) 27)).alloc (.cells (Ye f s nm num text ra h rc) 162)) z12 134;rw[World.size_alloc,World.size_alloc]at d;rw[c];exact d
 have m:=Yw (Cn wd now given births ta tc (.slice pa pn pc) (.slice la g lc) a s W w.heap.size (AI.below k i) i.size Yv);have T:=Hi l;have n:=Yw c;have u:=Yw r;obtain⟨v0,B,C,D,E,F,G,H⟩:=AS q;obtain⟨A,_⟩:=t 1 _ rfl;clear c q r t k l;go_enter func124,ntmps124;go_upto_region 1 with fail;rw[<-n.o];clear n;go_wp2_with fail;refine Calls.mono m.o ?_;rintro e I ⟨rfl,j⟩
 obtain⟨⟨J,Y⟩,⟨K,Z⟩,⟨L,q2⟩,⟨M,q3⟩,⟨N,q4⟩,⟨O,q5⟩,⟨P,q6⟩,⟨Q,q7⟩,⟨R,q8⟩,⟨S,q9⟩,⟨x,V⟩,y,X⟩:=BL (Aa.below (v:=Ze) u.o j);have o:=i.trans (j.mono i.size);generalize BX a s=fi at *
 clear v0 B C D E F G H m A;go_wp2;refine bodyPost_ret (v:=.agg (Co 2 ⟨#[]⟩ ⟨#[]⟩).toArray) (by simp[results,results124,go_sem,J,K,L,M,N,O,P,Q,R,S,x,y,Co]) rfl ?_;exact⟨rfl,o.trans (Tn.below (BR I (w.heap.size+2) _ _ _ _ _ _ _ _ _ _ _ _) o.size (by intro v z;simp at z;omega))⟩
theorem OM{n:Zi}(s:Zi)(h:¬∃x∈ps,x.name=n):(BC ps n s).length=ps.length+1:=by
 have c:∀(l:List Pd),(¬∃x∈l,x.name=n)->(l.filter (fun x=>less x.name n)).length+(l.filter (fun x=> !(less x.name n)&& !decide (x.name=n))).length=l.length:=by
  intro l;induction l with
  |nil=>intro _;rfl
  |cons x l ih=>intro a;have d:x.name≠n:=fun e=>a ⟨x,Yu,e⟩;have:=ih (fun⟨y,hy,e⟩=>a ⟨y,by simp[hy],e⟩);cases a:less x.name n<;>simp[a,d]<;>omega
 have:=c ps h;unfold BC;rw[List.length_append,List.length_append];simp;omega
def WO(wd now given births num:Int)(zs:List (Kd×Value))(ps:List Pd)(ls:List Ld)(s:Zi)(X:Zh)(e:Ending)(w':Zh):Prop:=
 Below X.heap.size X w'/\(((ls.length=200\/given=1000000000)/\e=.returned (.agg (Co 4 ⟨#[]⟩ ⟨#[]⟩).toArray))\/
  ((ls.length<200/\given<1000000000)/\∃b1 tc1 zs1 p1 pc1 g c,e=.returned (.agg #[Ze,Zg wd,Zg now,Zg (given+1),Zg births,.slice (some ⟨b1,0,none⟩) zs.length tc1,.slice (some ⟨p1,0,none⟩) ps.length pc1,.slice (some ⟨g,0,none⟩) (ls.length+1) c,Zc,Zg (given+1),Zc,Zc])/\zs1.map (·.1)=zs.map (·.1)/\w'.ownsRow X.heap.size 37 4 (.slice (some ⟨b1,0,none⟩) zs1.length tc1) zs1.length (Ai kC zs1)/\(∀z∈zs1,∃g' c',z.2=.slice (some ⟨g',0,none⟩) z.1.B.length c'/\w'.ownsRow X.heap.size 9 1 z.2 z.1.B.length (z.1.B.map Value.string))/\w'.ownsRow X.heap.size 58 2 (.slice (some ⟨p1,0,none⟩) ps.length pc1) ps.length (Ai pC ps)/\w'.ownsRow X.heap.size 61 3 (.slice (some ⟨g,0,none⟩) (ls.length+1) c) (ls++[(⟨given+1,s,now+num⟩:Ld)]).length (Ai lC (ls++[(⟨given+1,s,now+num⟩:Ld)]))/\b1≠g/\p1≠g/\∀z∈zs1,∀ad n rc,z.2=.slice (some ad) n rc->ad.block≠g))
theorem Bf.some{off:Nat}{zs:List (Kd×Value)}(h:Bf w b off zs):DR w ⟨b,off,none⟩ (zs.map (·.1)):=by intro i k a;rw[List.getElem?_map]at a;obtain⟨z,f,rfl⟩:=Option.map_eq_some_iff.1 a;obtain⟨⟨_,_,_,d⟩,c,rc,e,_⟩:=h i z f;exact⟨c,rc,by rw[d,e]⟩
theorem NQ{T P L:Option Nat}{R:List Nat}{l:Nat}(h:(T.toList++(P.toList++(L.toList++R))).Nodup)(a:L=some l):T≠some l/\P≠some l/\l∉R:=by subst a;cases T<;>cases P<;>simp_all<;>grind
section
variable (base:Nat) (wd now given births:Int) (b:Nat) (ta pa la:Zk) (tc pc lc:Nat) (zs:List (Kd×Value)) (ps:List Pd) (ls:List Ld) (s nm text:Zi) (num:Int) (refs:Zl) (ra:Zk) (rc:Nat) (w:Zh)
theorem Tp(h:CT w base b ta pa la pc lc zs ps ls)(m:IM wd now given births (zs.map (·.1)) ps ls 3 num text refs):
 Calls prog 111 #[.agg (Yj wd now given births ta zs.length tc pa ps.length pc la ls.length lc),.agg (Ye 3 s nm num text ra refs.length rc)] w (MI base (.slice la ls.length lc) wd now given births (zs.map (·.1)) ps ls 3 s nm num text refs w):=by
 refine Dg 3 125 _ wd now given births ta pa la zs.length tc ps.length pc ls.length lc s nm text num ra refs.length rc w [] (fun X e w'=>Pc X w' e wd now given births (.slice ta zs.length tc) (.slice la ls.length lc) ps nm) _ (.inr (.inr (.inl ⟨rfl,rfl,rfl⟩))) Yu (fun X a _=>OB wd now given births ta la pa zs.length tc ls.length lc pc ps nm X (h.below a).fp (by have:=m.np;omega)) ?_ ?_
 .rintro X e w' ⟨d,⟨_,rfl⟩|⟨_,g,c,rfl,_⟩⟩
  .exact⟨Tn.of d,_,_,_,_,_,_,_,_,_,_,_,_,_,_,_,_,_,_,rfl⟩
  .exact⟨Tn.of d,_,_,_,_,_,_,_,_,_,_,_,_,_,_,_,_,_,_,rfl⟩
 .rintro X e w' t a u ⟨d,⟨k,rfl⟩|⟨f,g,c,rfl,o⟩⟩ i
  .exact⟨Tn.of (BY a d i),.inl ⟨5,_,_,.inr ⟨rfl,rfl,.inr (.inl ⟨rfl,k,rfl⟩)⟩,rfl⟩⟩
  .have j:=BY a d i;have n:=h.below j;have l:=DC o i Yv;exact⟨Tn.of j,.inr ⟨⟨⟨#[]⟩,0,now,given,births,zs.map (·.1),Bk ps nm,ls⟩,b,ta,tc,zs,_,c,la,lc,.inr (.inr (.inl ⟨rfl,f,rfl⟩)),by rw[List.length_map],rfl,n.gw l (Zm h.lb a.size) (fun q r=>Zr (h.di.2.1 q r) a.size)⟩⟩
theorem Tq(h:CT w base b ta pa la pc lc zs ps ls)(u:IM wd now given births (zs.map (·.1)) ps ls 5 num text refs):
 Calls prog 111 #[.agg (Yj wd now given births ta zs.length tc pa ps.length pc la ls.length lc),.agg (Ye 5 s nm num text ra refs.length rc)] w (MI base (.slice la ls.length lc) wd now given births (zs.map (·.1)) ps ls 5 s nm num text refs w):=by
 refine Dg 5 127 _ wd now given births ta pa la zs.length tc ps.length pc ls.length lc s nm text num ra refs.length rc w [] (fun X e w'=>Re X w' e wd now given births (.slice ta zs.length tc) (.slice pa ps.length pc) ls num) _ (.inr (.inr (.inr (.inl ⟨rfl,rfl,rfl⟩)))) Yu (fun X d _=>PS wd now given births ta pa la zs.length tc ps.length pc lc ls num X (h.below d).fs (by have:=u.nl;omega)) ?_ ?_
 .rintro X e w' ⟨f,⟨_,rfl⟩|⟨_,g,c,rfl,_⟩⟩
  .exact⟨Tn.of f,_,_,_,_,_,_,_,_,_,_,_,_,_,_,_,_,_,_,rfl⟩
  .exact⟨Tn.of f,_,_,_,_,_,_,_,_,_,_,_,_,_,_,_,_,_,_,rfl⟩
 .rintro X e w' A d l ⟨f,⟨m,rfl⟩|⟨i,g,c,rfl,x⟩⟩ j
  .exact⟨Tn.of (BY d f j),.inl ⟨5,_,_,.inr ⟨rfl,rfl,.inr (.inr (.inr (.inl ⟨rfl,m,rfl⟩)))⟩,rfl⟩⟩
  .have k:=BY d f j;have v:=h.below k;have o:=DC x j Yv;exact⟨Tn.of k,.inr ⟨⟨⟨#[]⟩,0,now,given,births,zs.map (·.1),ps,Bt ls num⟩,b,ta,tc,zs,pa,pc,_,c,.inr (.inr (.inr (.inr (.inl ⟨rfl,i,rfl⟩)))),by rw[List.length_map],rfl,v.gx o (Zm h.lb d.size) (Zr h.bl d.size) (fun q y=>Zr (h.di.1 q y) d.size) (fun z l a n c r t=>Zr (h.di.2.2 z l a n c r t) d.size)⟩⟩
theorem Tr(h:CT w base b ta pa la pc lc zs ps ls)(f:IM wd now given births (zs.map (·.1)) ps ls 6 num text refs):
 Calls prog 111 #[.agg (Yj wd now given births ta zs.length tc pa ps.length pc la ls.length lc),.agg (Ye 6 s nm num text ra refs.length rc)] w (MI base (.slice la ls.length lc) wd now given births (zs.map (·.1)) ps ls 6 s nm num text refs w):=by
 refine Dg 6 128 _ wd now given births ta pa la zs.length tc ps.length pc ls.length lc s nm text num ra refs.length rc w [] (fun X e w'=>RN X w' e wd now given births (.slice ta zs.length tc) (.slice pa ps.length pc) ls num) _ (.inr (.inr (.inr (.inr (.inl ⟨rfl,rfl,rfl⟩))))) Yu (fun X d _=>Qw wd now given births ta pa la zs.length tc ps.length pc lc ls num X (h.below d).fs (by have:=f.nl;omega) f.db f.ci f.ic f.ie) ?_ ?_
 .rintro X e w' ⟨i,⟨_,rfl⟩|⟨_,g,c,rfl,_⟩⟩
  .exact⟨Tn.of i,_,_,_,_,_,_,_,_,_,_,_,_,_,_,_,_,_,_,rfl⟩
  .exact⟨Tn.of i,_,_,_,_,_,_,_,_,_,_,_,_,_,_,_,_,_,_,rfl⟩
 .rintro X e w' A d m ⟨i,⟨o,rfl⟩|⟨j,g,c,rfl,x⟩⟩ k
  .exact⟨Tn.of (BY d i k),.inl ⟨4,_,_,.inr ⟨rfl,rfl,.inr (.inr (.inr (.inr (.inl ⟨rfl,o,rfl⟩))))⟩,rfl⟩⟩
  .have l:=BY d i k;have v:=h.below l;have r:=DC x k Yv;exact⟨Tn.of l,.inr ⟨⟨⟨#[]⟩,0,now+num,given,births,zs.map (·.1),ps,BH ls (now+num)⟩,b,ta,tc,zs,pa,pc,_,c,.inr (.inr (.inr (.inr (.inr (.inl ⟨rfl,j,rfl⟩))))),by rw[List.length_map],rfl,v.gx r (Zm h.lb d.size) (Zr h.bl d.size) (fun q y=>Zr (h.di.1 q y) d.size) (fun z m a n c t u=>Zr (h.di.2.2 z m a n c t u) d.size)⟩⟩
theorem Ts(h:CT w base b ta pa la pc lc zs ps ls)(j:IM wd now given births (zs.map (·.1)) ps ls 2 num text refs):
 Calls prog 111 #[.agg (Yj wd now given births ta zs.length tc pa ps.length pc la ls.length lc),.agg (Ye 2 s nm num text ra refs.length rc)] w (MI base (.slice la ls.length lc) wd now given births (zs.map (·.1)) ps ls 2 s nm num text refs w):=by
 have m:(zs.map (·.1)).length<=1000:=by have:=j.cf.len;omega
 by_cases hth:Aw (zs.map (·.1)) s
 .refine Dg 2 124 _ wd now given births ta pa la zs.length tc ps.length pc ls.length lc s nm text num ra refs.length rc w [] (fun X e w'=>Uc X w' e wd now given births (.slice ta zs.length tc) (.slice la ls.length lc) ps nm s) _ (.inr (.inl ⟨rfl,rfl,rfl⟩)) Yu (fun X a _=> ?_) ?_ ?_
  .have i:=Rg wd now given births 2 num ta pa la ra tc pc lc ls.length refs.length rc (zs.map (·.1)) ps nm s text X (h.below a).ct (h.below a).fp m (by have:=j.np;omega) hth j.cg;rw[List.length_map]at i;exact i
  .rintro X e w' ⟨d,⟨_,rfl⟩|⟨_,g,c,rfl,_⟩⟩
   .exact⟨Tn.of d,_,_,_,_,_,_,_,_,_,_,_,_,_,_,_,_,_,_,rfl⟩
   .exact⟨Tn.of d,_,_,_,_,_,_,_,_,_,_,_,_,_,_,_,_,_,_,rfl⟩
  .rintro X e w' u a B ⟨d,⟨C,rfl⟩|⟨v,g,c,rfl,z⟩⟩ k
   .have o:=JY ps nm s;have r:¬∃x∈ps,x.name=nm:=fun l=>by have:=o.2 l;have:=j.np;omega
    exact⟨Tn.of (BY a d k),.inl ⟨4,_,_,.inr ⟨rfl,rfl,.inl ⟨rfl,.inr ⟨hth,r,by have:=o.1;have:=j.np;omega,rfl⟩⟩⟩,rfl⟩⟩
   .have n:=BY a d k;have y:=h.below n;have t:=DC z k Yv;have f:(∃x∈ps,x.name=nm)\/ps.length<100:=by
     by_cases l:∃x∈ps,x.name=nm
     .exact .inl l
     .have:=OM s l;exact .inr Yv
    exact⟨Tn.of n,.inr ⟨⟨⟨#[]⟩,0,now,given,births,zs.map (·.1),BC ps nm s,ls⟩,b,ta,tc,zs,_,c,la,lc,.inr (.inl ⟨rfl,hth,f,rfl⟩),by rw[List.length_map],rfl,y.gw t (Zm h.lb a.size) (fun q A=>Zr (h.di.2.1 q A) a.size)⟩⟩
 .refine Dg 2 124 _ wd now given births ta pa la zs.length tc ps.length pc ls.length lc s nm text num ra refs.length rc w [] (fun X e w'=>e=.returned (.agg (Co 2 ⟨#[]⟩ ⟨#[]⟩).toArray)/\Zz X w') _ (.inr (.inl ⟨rfl,rfl,rfl⟩)) Yu (fun X a _=> ?_) ?_ ?_
  .have i:=MW wd now given births 2 num ta pa la ra tc ps.length pc ls.length lc refs.length rc (zs.map (·.1)) s nm text X (h.below a).ct m hth;rw[List.length_map]at i;exact i
  .rintro X e w' ⟨rfl,d⟩;exact⟨Tn.of d,_,_,_,_,_,_,_,_,_,_,_,_,_,_,_,_,_,_,rfl⟩
  .rintro X e w' u a B ⟨rfl,d⟩ k;exact⟨Tn.of (BY a d k),.inl ⟨2,_,_,.inr ⟨rfl,rfl,.inl ⟨rfl,.inl ⟨hth,rfl⟩⟩⟩,rfl⟩⟩
theorem Tt(h:CT w base b ta pa la pc lc zs ps ls)(j:IM wd now given births (zs.map (·.1)) ps ls 4 num text refs)(zI:∀k∈zs.map (·.1),k.B.length<=30):
 Calls prog 111 #[.agg (Yj wd now given births ta zs.length tc pa ps.length pc la ls.length lc),.agg (Ye 4 s nm num text ra refs.length rc)] w (MI base (.slice la ls.length lc) wd now given births (zs.map (·.1)) ps ls 4 s nm num text refs w):=by
 have zK:(zs.map (·.1)).length<=600:=j.cf.len;refine MV wd now given births ta pa la zs.length tc ps.length pc ls.length lc s nm text num ra refs.length rc w (BX (zs.map (·.1)) s) (WO wd now given births num zs ps ls s) _ (fun X x=> ?_) (fun h0 X x t=> ?_) ?_ ?_ ?_
 .have Q:=Cn wd now given births ta tc (.slice pa ps.length pc) (.slice la ls.length lc) (zs.map (·.1)) s X X.heap.size (h.below x).ct (Zx) Yv;rw[List.length_map]at Q;exact Q
 .have u:=h.below x;have Q:=Ij wd now given births ta pa la tc pc lc (zs.map (·.1)) ps ls X ⟨u.ct,u.fp,u.fs⟩ (fun A hA=>by
   rcases u.tb with e|e
   .rw[e]at hA;cases hA;exact u.z.some
   .rw[e];intro i k hk;simp at hk) (Dy u.po) (Dy u.lo) zK j.np j.nl zI
  rw[List.length_map]at Q;refine Q.mono ?_;rintro e w' ⟨T,P',L',rs,rfl,d,K,m⟩;obtain⟨E,n1,J,rfl⟩:=K T Yu;obtain⟨M,n2,I,rfl⟩:=K P' Yu;obtain⟨L,n3,zS,rfl⟩:=K L' Yu;obtain⟨_,_,o⟩:=Ax d.aj;obtain⟨_,_,G⟩:=Ax d.pins;obtain⟨_,_,P⟩:=Ax d.aq;cases o;cases G;cases P;refine⟨⟨_,_,_,_,_,_,_,_,_,rfl,fun Y D=> ?_⟩,m⟩
  refine(GZ wd now given births (some ⟨E,0,none⟩) (some ⟨M,0,none⟩) (some ⟨L,0,none⟩) _ J ps.length I zS X.heap.size ls s num Y (Ap d.aq D) (Zm m.size D.size) (by have:=j.nl;omega) j.bx j.bk j.db j.ci j.ic j.ie).mono ?_;rintro e w3 ⟨y,W⟩;have zV:X.heap.size<=L:=(Ad d.aq rfl).1
  have zJ:Below X.heap.size X w3:=(m.trans (D.mono m.size)).trans (y.below (Zm m.size D.size) (by intro v K;simp[Value.ownBlock]at K;omega));refine⟨zJ,?_⟩;rcases W with⟨B,rfl⟩|⟨⟨V,R⟩,g,c,rfl,ho,U⟩
  .exact .inl ⟨by have:=j.nl;have:=j.bk;omega,rfl⟩
  .have Z:=d.nd;rw[Ft]at Z;unfold BO at Z;obtain⟨n1,n2,n3⟩:=NQ Z (l:=L) rfl;have f:∀{e:TypeId} {size:Nat} {v:Value} {n:Nat} {xs:Zj},w'.ownsRow X.heap.size e size v n xs->v.ownBlock≠some L->w3.ownsRow X.heap.size e size v n xs:=fun {e size v n xs} ho1 hne=>As (Ap ho1 D) (fun q hq=>y.block q (Ad (Ap ho1 D) hq).2 (fun e=>by simp[Value.ownBlock]at e;exact hne (by rw[hq,e])))
   have hlen:((zs.map (·.1)).zip rs).length=zs.length:=by rw[List.length_zip,d.len,List.length_map];omega
   refine .inr ⟨⟨V,R⟩,E,J,(zs.map (·.1)).zip rs,M,I,g,c,Yu,?_,?_,?_,f d.pins n2,ho,?_,?_,?_⟩
   .rw[List.map_fst_zip (by rw[d.len];exact Zx)]
   .have h2:=f d.aj n1;rw[hlen];rw[List.length_map]at h2;exact h2
   .intro z t;obtain⟨i,r⟩:=List.getElem?_of_mem t;rw[List.getElem?_zip_eq_some]at r;have hr:=d.B i z.1 z.2 r.1 r.2;obtain⟨C,n',O,F⟩:=K z.2 (by simp;exact .inr (.inr (.inr (Zs r.2))));obtain⟨a',zU,zE⟩:=Ax hr;rw[F]at zE;cases zE;refine⟨C,O,F,f hr (fun e=>n3 ?_)⟩;exact List.mem_filterMap.2 ⟨z.2,Zs r.2,e⟩
   .have q1:=(Ad d.aj (g:=E) rfl).2;have q2:=D.size;rcases U with H|H
    .have o:L=g:=by simpa [Value.ownBlock]using H
     intro e;exact n1 (by simp[Value.ownBlock];omega)
    .omega
   .have q1:=(Ad d.pins (g:=M) rfl).2;have q2:=D.size;rcases U with H|H
    .have o:L=g:=by simpa [Value.ownBlock]using H
     intro e;exact n2 (by simp[Value.ownBlock];omega)
    .omega
   .intro z t a n' O G;obtain⟨i,r⟩:=List.getElem?_of_mem t;rw[List.getElem?_zip_eq_some]at r;have hr:=d.B i z.1 z.2 r.1 r.2;obtain⟨C,m',d',P⟩:=K z.2 (by simp;exact .inr (.inr (.inr (Zs r.2))));rw[P]at G;cases G;have q1:=(Ad hr (g:=C) (by rw[P];rfl)).2;have q2:=D.size;show C≠g;rcases U with H|H
    .have o:L=g:=by simpa [Value.ownBlock]using H
     intro e;exact n3 (List.mem_filterMap.2 ⟨z.2,Zs r.2,by rw[P];simp[Value.ownBlock];omega⟩)
    .omega
 .rintro X e w' x ⟨m,⟨_,rfl⟩|⟨_,E,J,zA,M,I,g,c,rfl,_⟩⟩
  .exact⟨m,_,_,_,_,_,_,_,_,_,_,_,_,_,_,_,_,_,_,rfl⟩
  .exact⟨m,_,_,_,_,_,_,_,_,_,_,_,_,_,_,_,_,_,_,rfl⟩
 .intro zT w' m;have N:¬Aw (zs.map (·.1)) s:=fun y=>by obtain⟨i,k,e,_⟩:=LF y;omega
  exact⟨Tn.of m,.inl ⟨2,_,_,.inr ⟨rfl,rfl,.inr (.inr (.inl ⟨rfl,.inl ⟨N,rfl⟩⟩))⟩,rfl⟩⟩
 .rintro h0 X e w' zH x t ⟨m,hQ⟩ y;have N:Aw (zs.map (·.1)) s:=Classical.byContradiction fun hn=>by have:=Hi hn;omega
  have hB:=BY x m y;rcases hQ with⟨B,rfl⟩|⟨⟨V,R⟩,E,J,zA,M,I,g,c,rfl,hm,hk,zG,zO,W,zB,zC,zP⟩
  .exact⟨Tn.of hB,.inl ⟨4,_,_,.inr ⟨rfl,rfl,.inr (.inr (.inl ⟨rfl,.inr ⟨N,B,rfl⟩⟩))⟩,rfl⟩⟩
  .have S:=DC hk y Yv;have zN:=DC zO y Yv;have zF:=DC W y Yv;have zR:Bf zH E 0 zA:=Bf.own S (fun z t=>by
    obtain⟨C,O,F,ho⟩:=zG z t;rw[F]at ho;exact⟨⟨C,0,none⟩,O,F,Ab.own (DC ho y Yv)⟩)
   refine⟨Tn.of hB,.inr ⟨⟨⟨#[]⟩,given+1,now,given+1,births,zs.map (·.1),ps,ls++[⟨given+1,s,now+num⟩]⟩,E,some ⟨E,0,none⟩,J,zA,some ⟨M,0,none⟩,I,some ⟨g,0,none⟩,c,.inr (.inr (.inr (.inl ⟨rfl,N,V,R,rfl⟩))),Yu,hm,⟨.inl rfl,zR,(Ad S rfl).2,zN.mono (Zm h.lb x.size),?_,Zm h.lb hB.size,by simp[Value.ownBlock];exact zB,fun q hq e=> ?_,fun z t a n c o _ e=> ?_,.inr (Zm (Zm h.lb x.size) (Ad S rfl).1),fun z t a n c o _=> ?_⟩⟩⟩
   .have h4:zH.ownsRow X.heap.size 61 3 (Yz g (ls++[(⟨given+1,s,now+num⟩:Ld)]).length c) (ls++[(⟨given+1,s,now+num⟩:Ld)]).length (Ai lC (ls++[(⟨given+1,s,now+num⟩:Ld)])):=by rw[List.length_append]at zF |-;exact zF
    exact h4.mono (Zm h.lb x.size)
   .have o:M=q:=by simpa [Value.ownBlock]using hq
    have G:g=q:=by simpa [Value.ownBlock]using e
    exact zC (o.trans G.symm)
   .have G:a.block=g:=by simpa [Value.ownBlock]using e
    exact zP z t a n c o G
   .obtain⟨C,O,F,zM⟩:=zG z t;rw[F]at o;cases o;have q1:=(Ad zM (g:=C) (by rw[F];rfl)).1;have q2:=h.lb;have q3:=x.size;show base<=C;omega
theorem Tu(h:CT w base b ta pa la pc lc zs ps ls)(o:IM wd now given births (zs.map (·.1)) ps ls 7 num text refs):
 Calls prog 111 #[.agg (Yj wd now given births ta zs.length tc pa ps.length pc la ls.length lc),.agg (Ye 7 s nm num text ra refs.length rc)] w (MI base (.slice la ls.length lc) wd now given births (zs.map (·.1)) ps ls 7 s nm num text refs w):=by
 have x:=o.cf.len;have A:zs.length<=600:=by rwa[List.length_map]at x
 by_cases hth:Aw (zs.map (·.1)) s
 .obtain rfl:ta=some ⟨b,0,none⟩:=h.tb.resolve_right (fun e=>by obtain⟨u,hu,_⟩:=hth;rw[e]at hu;simp at hu)
  refine Dg 7 129 _ wd now given births (some ⟨b,0,none⟩) pa la zs.length tc ps.length pc ls.length lc s nm text num ra refs.length rc w [] (fun X e w'=>Pb X w' e wd now given births (.slice pa ps.length pc) (.slice la ls.length lc) zs ps ls s) _ (.inr (.inr (.inr (.inr (.inr (⟨rfl,rfl,rfl⟩)))))) Yu (fun X d _=>KV wd now given births b 0 tc pc lc pa la zs ps ls s X (h.below d).z (h.below d).bl (h.below d).fp (h.below d).fs A o.np o.nl (fun z i=>(o.cf.B z.1 (List.mem_map.2 ⟨z,i,rfl⟩)).1) hth) ?_ ?_
  .rintro X e w' ⟨f,⟨_,rfl⟩|⟨_,g,c,rfl,_⟩⟩
   .exact⟨Tn.of f,_,_,_,_,_,_,_,_,_,_,_,_,_,_,_,_,_,_,rfl⟩
   .exact⟨Tn.of f,_,_,_,_,_,_,_,_,_,_,_,_,_,_,_,_,_,_,rfl⟩
  .rintro X e w' C d i ⟨f,⟨q,rfl⟩|⟨l,g,c,rfl,B,G,r⟩⟩ k
   .exact⟨Tn.of (BY d f k),.inl ⟨6,_,_,.inr ⟨rfl,rfl,.inr (.inr (.inr (.inr (.inr ⟨rfl,.inr ⟨hth,q,rfl⟩⟩))))⟩,rfl⟩⟩
   .have t:=BY d f k;have j:=h.below t;have y:=B.I k r Yt (fun z i a n c D E v=>by
     simp at v;have:=h.z.bz (List.mem_filter.1 i).1 D E;omega)
    exact⟨Tn.of t,.inr ⟨⟨⟨#[]⟩,0,now,given,births,Eg (zs.map (·.1)) s,ps,ls⟩,g,_,c,Bu zs s,pa,pc,la,lc,.inr (.inr (.inr (.inr (.inr (.inr ⟨rfl,hth,l,rfl⟩))))),by simp[<-Je],Je zs s,⟨.inl rfl,y,Zr r k.size,j.po,j.lo,j.lb,fun e=>by have m:=h.di.2.1 g e.symm;have F:=d.size;omega,j.pL,fun z i=>j.zL z (List.mem_filter.1 i).1,.inr (by have m:=h.lb;have F:=d.size;omega),fun z i=>j.zr z (List.mem_filter.1 i).1⟩⟩⟩
 .refine Dg 7 129 _ wd now given births ta pa la zs.length tc ps.length pc ls.length lc s nm text num ra refs.length rc w [] (fun X e w'=>e=.returned (.agg (Co 2 ⟨#[]⟩ ⟨#[]⟩).toArray)/\Zz X w') _ (.inr (.inr (.inr (.inr (.inr (⟨rfl,rfl,rfl⟩)))))) Yu (fun X d _=> ?_) ?_ ?_
  .have m:=LP wd now given births ta pa la tc ps.length pc ls.length lc (zs.map (·.1)) s X (h.below d).ct Yv hth;rw[List.length_map]at m;exact m
  .rintro X e w' ⟨rfl,f⟩;exact⟨Tn.of f,_,_,_,_,_,_,_,_,_,_,_,_,_,_,_,_,_,_,rfl⟩
  .rintro X e w' C d i ⟨rfl,f⟩ k;exact⟨Tn.of (BY d f k),.inl ⟨2,_,_,.inr ⟨rfl,rfl,.inr (.inr (.inr (.inr (.inr ⟨rfl,.inl ⟨hth,rfl⟩⟩))))⟩,rfl⟩⟩
theorem Tv(h:CT w base b ta pa la pc lc zs ps ls)(d:IM wd now given births (zs.map (·.1)) ps ls 1 num text refs)(hr:Ab w w.heap.size ra refs)(W:ra=none->refs.length=0/\rc=0):
 Calls prog 111 #[.agg (Yj wd now given births ta zs.length tc pa ps.length pc la ls.length lc),.agg (Ye 1 s nm num text ra refs.length rc)] w (MI base (.slice la ls.length lc) wd now given births (zs.map (·.1)) ps ls 1 s nm num text refs w):=by
 refine Dg 1 123 _ wd now given births ta pa la zs.length tc ps.length pc ls.length lc s nm text num ra refs.length rc w (Value.slice la ls.length lc).ownBlock.toList (fun X e w'=>PV base b wd now given births num zs (.slice pa ps.length pc) (.slice la ls.length lc) ls text refs X e w') _ (.inl ⟨rfl,rfl,rfl⟩) (fun q f=>h.di.2.1 q (by simpa using f)) (fun X i _=>Ri base wd now given births 1 num ta b tc zs pa la ps.length pc lc ls s nm text refs ra rc X ⟨h.tb,W,(h.below i).z,(h.below i).bl,Ap h.lo i,Zm h.lb i.size,h.bL,h.zL,Ab.mono (Ab.below hr i) i.size,d.cf,d.w1,fun z m=>d.cj z.1 (List.mem_map.2 ⟨z,m,rfl⟩),d.txl,d.rfn,d.bj,d.ak,d.bx,d.bk,d.db,d.ci,d.ic,d.ie,d.nl⟩) ?_ ?_
 .rintro X e w' ⟨l,⟨c,a,J,_,rfl⟩|⟨v,ak,g,K,G,o,c2,_,_,_,_,rfl,_⟩⟩
  .exact⟨l,_,_,_,_,_,_,_,_,_,_,_,_,_,_,_,_,_,_,rfl⟩
  .exact⟨l,_,_,_,_,_,_,_,_,_,_,_,_,_,_,_,_,_,_,rfl⟩
 .rintro X e w' zE i m ⟨Y,hQ⟩ l;have r:=Y;have I:=Tn.fresh ((Tn.of i).trans r) l Yv;rcases hQ with⟨c,a,J,U,rfl⟩|⟨v,ak,g,K,G,o,c2,x,y,S,O,rfl,M,zB,A,B,F,C,ho,Q,zA⟩
  .exact⟨I,.inl ⟨c,a,J,.inl ⟨rfl,U⟩,rfl⟩⟩
  .have P:g≠w.heap.size+2:=by have:=h.bl;rcases B with⟨e,_⟩|e<;>omega
   have Z:=zB.I l A (by simp;exact P) (fun z m a n c k H R=>by
    simp at R;rcases F z m with u|⟨N,n',zC,t,T⟩
    .have:=h.z.bz u k H;omega
    .rw[k]at t;cases t;omega)
   have zG:o≠w.heap.size+2:=by
    rcases C with e|e
    .have:=h.di.2.1 o e;omega
    .omega
   have D:=MJ ho l (by intro q f;have:o=q:=by simpa [Value.ownBlock]using f
                       omega)
   have E:=Ap h.po i;have V:=MJ (As E (w':=w') (fun q f=>r.block q (Ad E f).2 (fun e=>h.pL q f (by simpa using e)))) l (by intro q f;have:=h.di.1 q f;omega);have zF:=i.size;have h4:zE.ownsRow base 61 3 (Yz o (ls++[(⟨given+1,Cb text refs wd,now+num⟩:Ld)]).length c2) (ls++[(⟨given+1,Cb text refs wd,now+num⟩:Ld)]).length (Ai lC (ls++[(⟨given+1,Cb text refs wd,now+num⟩:Ld)])):=by rw[List.length_append]at D |-;exact D
   refine⟨I,.inr ⟨⟨Cb text refs wd,given+1,now,given+1,ak,v,ps,ls++[⟨given+1,Cb text refs wd,now+num⟩]⟩,g,_,K,G,pa,pc,_,c2,.inl ⟨rfl,x,S,O,v,ak,y,rfl⟩,by simp[<-M],M,⟨.inl rfl,Z,Zr A l.size,V,h4,Zm h.lb I.size,by simp[Value.ownBlock];exact Q,fun q f e=> ?_,fun z m a n c j k e=> ?_,?_,fun z m a n c j k=> ?_⟩⟩⟩
   .have j:o=q:=by simpa [Value.ownBlock]using e
    have:=h.di.1 q f;rcases C with L|L
    .exact h.pL q f (by rw[L,j])
    .omega
   .have H:a.block=o:=by simpa [Value.ownBlock]using e
    exact zA z m a n c j k H
   .rcases B with⟨j,k⟩|j
    .rw[j,k];exact h.zb
    .exact .inr (by have:=h.lb;omega)
   .rcases F z m with u|⟨N,n',zC,t,T⟩
    .exact h.zr z u a n c j k
    .rw[j]at t;cases t;have:=h.lb;omega
theorem Kf(a:Int)(h:CT w base b ta pa la pc lc zs ps ls)(c:IM wd now given births (zs.map (·.1)) ps ls a num text refs)(d:∀k∈zs.map (·.1),k.B.length<=30)(f:Ab w w.heap.size ra refs)(e:ra=none->refs.length=0/\rc=0):
 Calls prog 111 #[.agg (Yj wd now given births ta zs.length tc pa ps.length pc la ls.length lc),.agg (Ye a s nm num text ra refs.length rc)] w (MI base (.slice la ls.length lc) wd now given births (zs.map (·.1)) ps ls a s nm num text refs w):=by
 obtain rfl|rfl|rfl|rfl|rfl|rfl|rfl:a=1\/a=2\/a=3\/a=4\/a=5\/a=6\/a=7:=by have:=c.kd1;have:=c.kd7;omega
 .exact Tv base wd now given births b ta pa la tc pc lc zs ps ls s nm text num refs ra rc w h c f e
 .exact Ts base wd now given births b ta pa la tc pc lc zs ps ls s nm text num refs ra rc w h c
 .exact Tp base wd now given births b ta pa la tc pc lc zs ps ls s nm text num refs ra rc w h c
 .exact Tt base wd now given births b ta pa la tc pc lc zs ps ls s nm text num refs ra rc w h c d
 .exact Tq base wd now given births b ta pa la tc pc lc zs ps ls s nm text num refs ra rc w h c
 .exact Tr base wd now given births b ta pa la tc pc lc zs ps ls s nm text num refs ra rc w h c
 .exact Tu base wd now given births b ta pa la tc pc lc zs ps ls s nm text num refs ra rc w h c
end
end
theorem Tw{ra:Zk}{rc:Nat}{a:Zl}(h:w.ownsRow base 9 1 (.slice ra a.length rc) a.length (a.map Value.string)):Ab w w.heap.size ra a/\(ra=none->a.length=0/\rc=0):=by
 rcases h.2 with⟨c,d⟩|⟨g,cap,i,c,_,_,f,_⟩
 .injection c with e1 e2 e3;subst e1;exact⟨.inl (List.eq_nil_of_length_eq_zero d),fun _=>⟨d,e3⟩⟩
 .cases c;exact⟨Ab.own h,fun e=>by cases e⟩
theorem CT.low{zs:List (Kd×Value)}(h:CT w base b ta pa la pc lc zs ps ls){V:List Nat}(f:Tn V w w')(j:∀q∈V,q<base):CT w' base b ta pa la pc lc zs ps ls:=by
 have m:∀{e:TypeId} {size:Nat} {v:Value} {n:Nat} {xs:Zj},w.ownsRow base e size v n xs->w'.ownsRow base e size v n xs:=fun h=>As h (fun g l=>f.block g (Ad h l).2 (fun e=>by have t:=j g e;have u:=(Ad h l).1;omega));refine⟨h.tb,?_,Zr h.bl f.size,m h.po,m h.lo,Zm h.lb f.size,h.bL,h.pL,h.zL,h.zb,h.zr⟩;rcases h.zb with e|e
 .rw[e];intro i z k;simp at k
 .exact h.z.I f h.bl (fun d=>by have:=j b d;omega) (fun z k a n c o r d=>by have t:=j _ d;have u:=h.zr z k a n c o r;omega)
theorem Wj{j k l m n o q:Value}(h:Aa w b [j,k,l,m,n,o,q])(a c d e f g i:Value):Aa (((((((w.setCell (Zd b 0) a).setCell (Zd b 1) c).setCell (Zd b 2) d).setCell (Zd b 3) e).setCell (Zd b 4) f).setCell (Zd b 5) g).setCell (Zd b 6) i) b [a,c,d,e,f,g,i]:=
 ((((((h.set 0 a).set 1 c).set 2 d).set 3 e).set 4 f).set 5 g).set 6 i
theorem VF(w:Zh)(R:Nat)(a c d e f g h:Value):Tn [R] w (((((((w.setCell (Zd R 0) a).setCell (Zd R 1) c).setCell (Zd R 2) d).setCell (Zd R 3) e).setCell (Zd R 4) f).setCell (Zd R 5) g).setCell (Zd R 6) h):=
 ((((((Bd _ _ _ _).trans (Bd _ _ _ _)).trans (Bd _ _ _ _)).trans (Bd _ _ _ _)).trans (Bd _ _ _ _)).trans (Bd _ _ _ _)).trans (Bd _ _ _ _)
theorem Kg(wd:Int)(a:Zk)(cap:Nat)(f:Zl)(w:Zh)(V:Ab w w.heap.size a f)(hl:f.length<=1048576)(hs:∀s∈f,s.size<=1048576):
 Calls prog 85 #[Zg wd,.slice a f.length cap] w (WM wd f w):=by
 obtain⟨W,hW⟩:∃W,W=w.alloc (.cells Yi 134):=⟨_,rfl⟩;have bW:=(Bc hW).1;have zW:=(Bc hW).2.1;have xW:=(Bc hW).2.2;have HW:=Yw hW;have d:=Ga wd W;obtain⟨⟨F,q0⟩,⟨G,q1⟩,⟨H,q2⟩,⟨I,q3⟩,⟨J,q4⟩,⟨K,q5⟩,⟨L,q6⟩,⟨M,q7⟩,⟨N,q8⟩,⟨O,q9⟩,⟨o,zG⟩,t,zH⟩:=BL xW;clear hW;by_cases hwd:1<=wd/\wd<=8
 .rw[decide_eq_true hwd]at d;by_cases hlen:f.length<=4000
  .have yR:decide ((4000:Int)<f.length)=false:=Yt
   obtain⟨A,hA⟩:∃A,A=W.alloc (.cells #[Zg wd,Ze,Ze,Ze,Zb,Zb,Zb] 27):=⟨_,rfl⟩;have bA:=(Bc hA).1;have zA:A.heap.size=w.heap.size+2:=by rw[hA];simp;omega
   have sA:Aa A (w.heap.size+1) [Zg wd,Ze,Ze,Ze,Zb,Zb,Zb]:=by rw[hA,<-zW];exact Aa.new W _ _
   have xA:=Aa.below (v:=Ze) xW bA;have yQ:=bW.trans (bA.mono bW.size);have Q:CT A (w.heap.size+2) w.heap.size none none none 0 0 [] [] []:=⟨.inr rfl,fun i z hz=>by simp at hz,Yv,⟨rfl,.inl ⟨rfl,rfl⟩⟩,⟨rfl,.inl ⟨rfl,rfl⟩⟩,Yv,by simp[Value.ownBlock],fun q hq=>by simp[Value.ownBlock]at hq,fun z hz=>by simp at hz,.inl rfl,fun z hz=>by simp at hz⟩;have u:=Yw d;have HA:=Yw hA
   have H0:=Yw (Zn sA (Zn xA (Zn Q yQ)));have zN:Hid (Ab w w.heap.size a f):=V;clear d hA sA xA Q bA V;go_enter func85,ntmps85;go_wp2_with fail;rw[<-HW.o];refine Calls.mono u.o ?_;rintro e w1 ⟨rfl,j⟩;replace j:=j.symm;subst j;clear u;go_upto_region 4 with fail;rw[<-HA.o];clear HA F G H I J K L M N O o t q0 q1 q2 q3 q4 q5 q6 q7 q8 q9 zG zH;go_wp2
   go_loopw [6] (fun i wr=>∃(k:Nat) (r:Rs) (b:Nat) (ta pa la:Zk) (tc pc lc:Nat) (zs:List (Kd×Value)),k<=f.length/\i=Zg k/\Hid (Aa wr (w.heap.size+1) (Yh wd r.D r.G r.C ta zs.length tc pa r.ps.length pc la r.ls.length lc)/\Aa wr w.heap.size z12/\CT wr (w.heap.size+2) b ta pa la pc lc zs r.ps r.ls/\zs.map (·.1)=r.ks/\CJ wd r0 (f.take k) r/\Zz w wr)) (fun i _=>f.length -(intOf i).toNat)
   case atStart=>exact⟨0,r0,w.heap.size,none,none,none,0,0,0,[],Nat.zero_le _,rfl,⟨H0.o.1,H0.o.2.1,H0.o.2.2.1,rfl,rfl,H0.o.2.2.2⟩⟩
   case round=>
    clear H0;obtain⟨k,r,b,ta,pa,la,tc,pc,lc,zs,hk,rfl,d⟩:=hrel;obtain⟨yC,yD,Q,l,g,m⟩:=d.o;by_cases hlt:k<f.length
    .obtain⟨rb,xC,ha,xF,yA⟩:=((zN.o.below m).mono m.size).at hlt;subst ha;have HG:=Yw (Zv hlt);have yS:=hs _ (List.getElem_mem hlt);have c0:=yA k _ HG.o;have yO:=Yw (Zu hlt);clear yA;generalize f[k]=s at *
     have HR:=Yw (Ql s wd wr yS);clear yC yD Q l g m;go_wp2_with fail;refine Calls.mono HR.o ?_;rintro e w2 ⟨v,rfl,zY,zV⟩;obtain⟨ra,rc,rfl⟩:=Ax zY;obtain⟨w3,zF⟩:∃X,X=w2.alloc (.cells (Ye ((Bi s wd).k) ((Bi s wd).sum) ((Bi s wd).name) ((Bi s wd).n) ((Bi s wd).t) ra ((Bi s wd).ss.length) rc) 162):=⟨_,rfl⟩;have zU:=(Bc zF).1;have b3:=zV.trans (zU.mono zV.size);have e3:=(Bc zF).2.2
     have s3:=Aa.below d.o.1 b3;have x3:=Aa.below (v:=Ze) d.o.2.1 b3;have zB:=d.o.2.2.1.below b3;have P:=Yw (d.o.2.2.2.2.2.trans (b3.mono d.o.2.2.2.2.2.size));have zE:=Tw (Ap zY zU);have zI:=Yw zF;have xE:(k:Int)<=4000:=Yv
     clear zF HR;cases hok:(Bi s wd).ok with
     |false=>
      obtain⟨⟨F,q0⟩,⟨G,q1⟩,⟨H,q2⟩,⟨I,q3⟩,⟨J,q4⟩,⟨K,q5⟩,⟨L,q6⟩,⟨M,q7⟩,⟨N,q8⟩,⟨O,q9⟩,⟨o,zG⟩,t,zH⟩:=BL x3;clear e3 s3 zB zE c0 x3;go_upto_region 8 with fail;rw[<-zI.o];go_wp2;refine bodyPost_ret (v:=.agg #[Zg 7,Ze,Ze,Ze,Ze,Zb,Zb,Zb,Zc,Zg ((k:Int)+1),Zc,Zc]) (by simp[results,results85,go_sem,F,G,H,I,J,K,L,M,N,O,o,t]) rfl ?_
      exact⟨⟨7,0,0,0,0,((k+1:Nat):Int),⟨#[]⟩,⟨#[]⟩,⟨#[]⟩,[],[],[]⟩,_,_,_,[],.inr ⟨⟨hwd,hlen⟩,.inl ⟨k+1,⟨k,r,s,rfl,HG.o,d.o.2.2.2.2.1,.inl hok⟩,rfl⟩⟩,rfl,Qm _ _,P.o.trans ((BR w3 w.heap.size _ _ _ _ _ _ _ _ _ _ _ _).below P.o.size Yu)⟩
     |true=>
      have zZ:=(GQ hok).1;have y:=d.o.2.2.2.2.1.ok (Ff hwd.1 hwd.2);have l:=d.o.2.2.2.1;have U:IM wd r.D r.G r.C (zs.map (·.1)) r.ps r.ls (Bi s wd).k (Bi s wd).n (Bi s wd).t (Bi s wd).ss:=by rw[l];exact Gu.jm y zZ (by have:=Tb zZ;unfold maxLen;omega)
      have zR:=Yw (Kf (w.heap.size+2) wd r.D r.G r.C b ta pa la tc pc lc zs r.ps r.ls (Bi s wd).sum (Bi s wd).name (Bi s wd).t (Bi s wd).n (Bi s wd).ss ra rc w3 (Bi s wd).k zB U (by rw[l];exact y.cu) zE.1 zE.2);obtain⟨v0,v1,v2,v3,v4,v5,v6⟩:=Aa.c7 s3 0 1 2 3 4 5 6;obtain⟨u0,u1,u2,u3,u4,u5⟩:=Aa.c6 e3 0 1 2 3 4 5;have yN:=Yw s3;have yP:=Yw x3;have zT:=Yw zB;clear e3 s3 zB zE c0 x3 U
      go_upto_region 8 with fail;rw[<-zI.o];clear zI;go_wp2_with fail;refine Calls.mono zR.o ?_;rintro e w4 ⟨ht,hQ⟩;have zP:∀q∈(Value.slice la r.ls.length lc).ownBlock.toList,w.heap.size+2<=q:=fun q hq=>(Ad zT.o.lo (by simpa using hq)).1;have zJ:=ht.below zT.o.lb zP;have R:=Aa.same yP.o (zJ.block _ Yv);have s4:=Aa.same yN.o (zJ.block _ Yv)
      have Y:=Yw (P.o.trans (zJ.mono Yv));clear v0 v1 v2 v3 v4 v5 v6 u0 u1 u2 u3 u4 u5 zR ht;rcases hQ with⟨c,a',b',zC,rfl⟩|⟨C,b1,yI,yJ,yK,yG,yH,yE,yF,hy,rfl,hm,hC⟩
      .rw[l]at zC;have xD:(c !=0)=true:=by have:=zC.code;simp;omega
       have yL:=Yw zC;have yB:(Co c a' b').toArray= #[Zg c,Ze,Ze,Ze,Ze,Zb,Zb,Zb,Zc,Ze,.string a',.string b']:=rfl;rw[yB];obtain⟨w5,n⟩:∃X,X=w4.alloc (.cells #[Zg c,Ze,Ze,Ze,Ze,Zb,Zb,Zb,Zc,Ze,.string a',.string b'] 134):=⟨_,rfl⟩;have D:=(Bc n).1;have n5:=(Bc n).2.2;have S:=Yw (Y.o.trans (D.mono Y.o.size))
       obtain⟨⟨F,q0⟩,⟨G,q1⟩,⟨H,q2⟩,⟨I,q3⟩,⟨J,q4⟩,⟨K,q5⟩,⟨L,q6⟩,⟨M,q7⟩,⟨N,q8⟩,⟨O,q9⟩,⟨o,zG⟩,t,zH⟩:=BL (Aa.below (v:=Ze) R D);obtain⟨m0,_⟩:=n5 0 _ rfl;have Z:=Yw n;clear n zC n5 R s4 yB;go_upto_region 11 with fail;rw[<-Z.o];go_wp2;refine bodyPost_ret (v:=.agg #[Zg 7,Ze,Ze,Ze,Ze,Zb,Zb,Zb,Zc,Zg ((k:Int)+1),Zc,Zc]) (by simp[results,results85,go_sem,F,G,H,I,J,K,L,M,N,O,o,t]) rfl ?_
       exact⟨⟨7,0,0,0,0,((k+1:Nat):Int),⟨#[]⟩,⟨#[]⟩,⟨#[]⟩,[],[],[]⟩,_,_,_,[],.inr ⟨⟨hwd,hlen⟩,.inl ⟨k+1,⟨k,r,s,rfl,HG.o,d.o.2.2.2.2.1,.inr ⟨c,a',b',yL.o⟩⟩,rfl⟩⟩,rfl,Qm _ _,S.o.trans ((BR w5 w.heap.size _ _ _ _ _ _ _ _ _ _ _ _).below S.o.size Yu)⟩
      .rw[l]at hy;obtain⟨w5,n⟩:∃X,X=w4.alloc (.cells #[Ze,Zg wd,Zg C.D,Zg C.G,Zg C.C,.slice yI C.ks.length yJ,.slice yG C.ps.length yH,.slice yE C.ls.length yF,.string C.sm,Zg C.le,Zc,Zc] 134):=⟨_,rfl⟩;have D:=(Bc n).1;have n5:=(Bc n).2.2;have E:=Aa.below s4 D;have x5:=Aa.below (v:=Ze) R D;have zK:=hC.below D;have zS:=Yw (Y.o.trans (D.mono Y.o.size))
       have zX:C.ks.length=yK.length:=by rw[<-hm,List.length_map]
       have H5:=Yw (Zn E (Zn x5 (Zn zK (Zn hm (Zn hy zX)))));obtain⟨⟨v0,p0⟩,⟨v1,p1⟩,⟨v2,p2⟩,⟨v3,p3⟩,⟨v4,p4⟩,⟨v5,p5⟩,v6,p6⟩:=(⟨E 0 _ rfl,E 1 _ rfl,E 2 _ rfl,E 3 _ rfl,E 4 _ rfl,E 5 _ rfl,E 6 _ rfl⟩:(_/\_)/\(_/\_)/\(_/\_)/\(_/\_)/\(_/\_)/\(_/\_)/\_/\_);obtain⟨m0,m1,m2,m3,m4,m5,m6⟩:=Aa.c7 n5 0 1 2 3 4 5 6;obtain⟨m7,_⟩:=n5 7 _ rfl;have Z:=Yw n;have zO:Hid (CJ wd r0 (f.take (k+1)) C):=by show CJ _ _ _ _;rw[yO.o];exact d.o.2.2.2.2.1.snoc ⟨hok,hy⟩
       have xB:=zK.lb;clear n hy n5 R s4 E x5 hC zK zX hm;go_upto_region 11 with fail;rw[<-Z.o];clear Z;go_wp2
       refine⟨⟨k+1,C,b1,yI,yG,yE,yJ,yH,yF,yK,Yv,Yo,⟨?_,Aa.same H5.o.2.1 ((VF w5 (w.heap.size+1) _ _ _ _ _ _ _).block _ Yv Yu),H5.o.2.2.1.low (VF w5 (w.heap.size+1) _ _ _ _ _ _ _) Yu,H5.o.2.2.2.1,zO.o,zS.o.trans ((VF w5 (w.heap.size+1) _ _ _ _ _ _ _).below zS.o.size Yu)⟩⟩,by simp[intOf];omega⟩;rw[<-H5.o.2.2.2.2.2];exact Wj H5.o.1 _ _ _ _ _ _ _
    .obtain rfl:k=f.length:=Yv
     have g:=d.o.2.2.2.2.1;rw[Zt (Zx)]at g;have y:=g.ok (Ff hwd.1 hwd.2);have l:=d.o.2.2.2.1;have x:=d.o.2.2.1;have h1:=Ij wd r.D r.G r.C ta pa la tc pc lc (zs.map (·.1)) r.ps r.ls wr ⟨x.ct,x.fp,x.fs⟩ (fun B hB=>by
      rcases x.tb with e|e
      .rw[e]at hB;cases hB;exact x.z.some
      .rw[e];intro i k hk;simp at hk) (Dy x.po) (Dy x.lo) (by rw[l];exact y.cf.len) y.np y.nl (by rw[l];exact y.cu)
     rw[List.length_map,l]at h1;have HC:=Yw h1;have yM:=Yw g;obtain⟨v0,v1,v2,v3,v4,v5,v6⟩:=Aa.c7 d.o.1 0 1 2 3 4 5 6;clear h1 g y l x yC yD Q m;go_wp2_with fail;refine Calls.mono HC.o ?_;rintro e w4 ⟨T,P',L',rs,rfl,hS,_,zM⟩;obtain⟨yY,yZ,rfl⟩:=Ax hS.aj;obtain⟨yW,yX,rfl⟩:=Ax hS.pins;obtain⟨yU,yV,rfl⟩:=Ax hS.aq;have R:=Aa.below (v:=Ze) d.o.2.1 zM;have yT:=d.o.2.1.lt;have HF:=Yw (Zn hS zM)
     obtain⟨⟨F,q0⟩,⟨G,q1⟩,⟨H,q2⟩,⟨I,q3⟩,⟨J,q4⟩,⟨K,q5⟩,⟨L,q6⟩,⟨M,q7⟩,⟨N,q8⟩,⟨O,q9⟩,⟨o,zG⟩,t,zH⟩:=BL R;clear hS zM HC R v0 v1 v2 v3 v4 v5 v6;go_wp2;refine bodyPost_ret (v:=.agg #[Ze,Zg wd,Zg r.D,Zg r.G,Zg r.C,.slice yY r.ks.length yZ,.slice yW r.ps.length yX,.slice yU r.ls.length yV,Zc,Ze,Zc,Zc]) (by simp[results,results85,go_sem,F,G,H,I,J,K,L,M,N,O,o,t]) rfl ?_;have m:=d.o.2.2.2.2.2
     refine⟨⟨0,wd,r.D,r.G,r.C,0,⟨#[]⟩,⟨#[]⟩,⟨#[]⟩,r.ks,r.ps,r.ls⟩,_,_,_,rs,.inr ⟨⟨hwd,hlen⟩,.inr ⟨r,yM.o,rfl⟩⟩,rfl,(HF.o.1.I (BR w4 w.heap.size _ _ _ _ _ _ _ _ _ _ _ _) (by simp;exact yT)).mono m.size,?_⟩;exact(m.trans (HF.o.2.mono m.size)).trans ((BR w4 w.heap.size _ _ _ _ _ _ _ _ _ _ _ _).below (Zm m.size HF.o.2.size) Yu)
  .have yR:decide ((4000:Int)<f.length)=true:=Yt
   have u:=Yw d;clear d;go_enter func85,ntmps85;go_wp2_with fail;rw[<-HW.o];refine Calls.mono u.o ?_;rintro e w1 ⟨rfl,j⟩;replace j:=j.symm;subst j;clear u;go_wp2;refine bodyPost_ret (v:=.agg (Yg 1)) (by simp[results,results85,go_sem,F,G,H,I,J,K,L,M,N,O,o,t]) rfl ?_
   exact⟨⟨1,0,0,0,0,0,⟨#[]⟩,⟨#[]⟩,⟨#[]⟩,[],[],[]⟩,_,_,_,[],.inl ⟨fun h=>hlen h.2,rfl⟩,rfl,Qm _ _,bW.trans ((BR W w.heap.size _ _ _ _ _ _ _ _ _ _ _ _).below bW.size Yu)⟩
 .rw[decide_eq_false hwd]at d;have u:=Yw d;clear d;go_enter func85,ntmps85;go_wp2_with fail;rw[<-HW.o];refine Calls.mono u.o ?_;rintro e w1 ⟨rfl,j⟩;replace j:=j.symm;subst j;clear u;go_wp2;refine bodyPost_ret (v:=.agg (Yg 1)) (by simp[results,results85,go_sem,F,G,H,I,J,K,L,M,N,O,o,t]) rfl ?_
  exact⟨⟨1,0,0,0,0,0,⟨#[]⟩,⟨#[]⟩,⟨#[]⟩,[],[],[]⟩,_,_,_,[],.inl ⟨fun h=>hwd h.1,rfl⟩,rfl,Qm _ _,bW.trans ((BR W w.heap.size _ _ _ _ _ _ _ _ _ _ _ _).below bW.size Yu)⟩
theorem UQ{j:Nat}{s:Zi}(h:z12[j]?=some (.string s)):s=⟨#[]⟩:=by have:=Zs h;simpa [z12]using this
theorem NR{a:Nat×Nat}(h:w.heap[o]?=some (.cells z12.toArray t a))(j:Nat):w.cell? (Zd o j)=z12[j]?:=by simp[World.cell?,h]
theorem Bf.gz{A:Nat×Nat}{zs:List (Kd×Value)}(h:Bf w b 0 zs)(l:w.heap[o]?=Option.some (.cells z12.toArray t A))(v:∀z∈zs,∀s∈z.1.B,s≠⟨#[]⟩)(E:Tn [o] w w')(u:b<w.heap.size):Bf w' b 0 zs:=by
 cases hzs:zs with
 |nil=>intro i z a;simp at a
 |cons z0 zs0=>
  rw[<-hzs];have B:b≠o:=by rintro rfl;obtain⟨⟨g,_⟩,_⟩:=h 0 z0 (by rw[hzs];rfl);rw[Nat.zero_mul,Nat.add_zero,NR l]at g;simp[z12]at g
  refine h.I E u (by simpa using B) (fun z a H n rc e m c=> ?_);obtain⟨i,D⟩:=List.getElem?_of_mem a;obtain⟨_,F,G,k,f⟩:=h i z D;rw[e]at k;cases k;rcases f with f|⟨I,x,y,_,C⟩
  .exact m f
  .cases y;simp at c;subst c;obtain⟨r,q,d⟩:∃r q,z.1.B=r::q:=List.exists_cons_of_ne_nil m;have j:=C 0 r (by rw[d];rfl);rw[NR l]at j;exact v z a r (by rw[d];simp) (UQ j)
theorem CT.gz{zs:List (Kd×Value)}(h:CT w base b ta pa la pc lc zs ps ls)(f:w.heap[o]?=some (.cells z12.toArray 134))(i:∀z∈zs,∀s∈z.1.B,s≠⟨#[]⟩)(e:Tn [o] w w'):CT w' base b ta pa la pc lc zs ps ls:=
 ⟨h.tb,h.z.gz f i e h.bl,Zr h.bl e.size,As h.po (fun g d=>e.block g (Ad h.po d).2 (by
  simp only[List.mem_singleton];rintro rfl;obtain⟨c,a⟩:=Ch h.po d;rw[f]at a;simp at a)),As h.lo (fun g d=>e.block g (Ad h.lo d).2 (by
  simp only[List.mem_singleton];rintro rfl;obtain⟨c,a⟩:=Ch h.lo d;rw[f]at a;simp at a)),Zm h.lb e.size,h.bL,h.pL,h.zL,h.zb,h.zr⟩
theorem CT.of{h:Zj}{d:List Kd}(a:AY w base T P L h d ps ls)(r:∀v∈T::P::L::h,∃g n c,v=Yz g n c)(M:base<=w.heap.size):
 ∃b p l tc pc lc zs,T=Yz b zs.length tc/\P=Yz p ps.length pc/\L=Yz l ls.length lc/\zs.map (·.1)=d/\CT w base b (some ⟨b,0,none⟩) (some ⟨p,0,none⟩) (some ⟨l,0,none⟩) pc lc zs ps ls/\base<=l/\l<w.heap.size:=by
 obtain⟨b,D,tc,rfl⟩:=r T Yu;obtain⟨p,E,pc,rfl⟩:=r P Yu;obtain⟨l,F,lc,rfl⟩:=r L Yu;obtain⟨_,_,H⟩:=Ax a.aj;obtain⟨_,_,I⟩:=Ax a.pins;obtain⟨_,_,J⟩:=Ax a.aq;cases H;cases I;cases J;have hlen:(d.zip h).length=d.length:=by rw[List.length_zip,a.len];omega
 have t:(d.zip h).map (·.1)=d:=List.map_fst_zip (by rw[a.len];exact Zx);have m:=a.nd;rw[Ft]at m;unfold BO at m;obtain⟨D,E,F⟩:=NQ m (l:=l) rfl;have y:=a.aj;rw[<-hlen]at y;have o:∀z∈d.zip h,∃i,d[i]?=some z.1/\h[i]?=some z.2:=fun z f=>by obtain⟨i,B⟩:=List.getElem?_of_mem f;rw[List.getElem?_zip_eq_some]at B;exact⟨i,B.1,B.2⟩
 refine⟨b,p,l,tc,pc,lc,d.zip h,by rw[hlen],rfl,rfl,t,⟨.inl rfl,?_,(Ad a.aj rfl).2,a.pins,a.aq,M,?_,?_,?_,.inr (Ad a.aj rfl).1,?_⟩,Ad a.aq rfl⟩
 .refine Bf.own y (fun z f=> ?_);obtain⟨i,q,j⟩:=o z f;have k:=a.B i z.1 z.2 q j;obtain⟨K,R,G,A⟩:=r z.2 (by simp;exact .inr (.inr (.inr (Zs j))));obtain⟨Q,O,u⟩:=Ax k;rw[A]at u;cases u;rw[A]at k;exact⟨⟨K,0,none⟩,G,A,Ab.own k⟩
 .intro e;simp[Value.ownBlock]at e;exact D (by simp[Value.ownBlock,e])
 .intro g N e;simp[Value.ownBlock]at N e;exact E (by simp[Value.ownBlock];omega)
 .intro z f C n rc e _ x;simp[Value.ownBlock]at x;obtain⟨i,q,j⟩:=o z f;refine F (List.mem_filterMap.2 ⟨z.2,Zs j,?_⟩);rw[e];simp[Value.ownBlock,x]
 .intro z f C n rc e _;obtain⟨i,q,j⟩:=o z f;have k:=a.B i z.1 z.2 q j;rw[e]at k;exact(Ad k (g:=C.block) (by simp[Value.ownBlock])).1
def IN(wd:Int)(s:Zi):Zi:=CI 7 s ⟨#[]⟩ 0 ⟨#[]⟩ [] wd
def Ba(v:Vd)(u:UR):Vd:=⟨v.wd,v.lim,v.ss,v.A++u.y.map (IN v.wd),v.O,v.D,v.G,v.C,u.ks,v.ps,v.ls,u.K,u.F,u.ms,u.R,u.S,u.ro⟩
def IP(c:Int)(vs:Zj)(n:Int)(D:Value):Zj:=Zg c::(vs++[Zg n,D])
def z20(c:Int):Zj:=[Zg c,Ze,Ze,Zb,Zb,Ze,Ze,Ze,Ze,Zb,Zb,Zb,Ze,Zb,Zb,Ze,Ze,Ze,Ze,Zb]
theorem Tx{a:Zj}(h:a.length=17):prog.built 150 [(1,.agg a.toArray)]=some (IP 0 a 0 Zb).toArray:=by
 obtain⟨k,l,m,n,o,q,r,t,u,v,c,d,e,f,g,i,j,rfl⟩:=Hq h
 kernel_rfl
def Es(v:Vd)(units:Int)(o:Option (UR×Nat)):Prop:=
 (¬(Cp v/\0<=units/\units<=10000)/\o=none)\/∃r,Dw v r/\(0<=units/\units<=10000)/\ClTo v.C v.ps v.ls (4000 -(v.ss++v.A).length) units.toNat 0 (DZ v) o
theorem Es.co{a:Int}{d e:Option (UR×Nat)}(g:Es v a d)(h:Es v a e):d=e:=by
 rcases g with⟨i,rfl⟩|⟨j,c,k,f⟩<;>rcases h with⟨n2,rfl⟩|⟨r2,k2,u2,c2⟩
 .rfl
 .exact absurd ⟨⟨r2,k2⟩,u2⟩ i
 .exact absurd ⟨⟨j,c⟩,k⟩ n2
 .exact f.co (Ll c) c2
def Wz(v:Vd)(o:Option (UR×Nat))(lo:Nat)(w:Zh)(cs:Zj):Prop:=
 match o with
 |none=>cs=z20 1
 |some (u,n)=>∃S U T P L Q M rs D,cs=IP 0 (Bh (Ba v u) S U T P L Q M) n D/\AD w lo S U T P L Q M rs (Ba v u)/\Ao w lo D u.y/\∀g,Al D=some g->g∉CK S U T P L Q M rs
structure Jv (w:Zh) (a:Va) (v:Vd):Prop where
 rows:CF w w.heap.size a v
 s:a.Z=none->v.ss.length=0/\a.j=0
 t:a.X=none->v.A.length=0/\a.Y=0
 q:EC a.g v.F.length a.qc
 m:EC a.i v.ms.length a.mc
 k:∀A,a.T=some A->KY w A v.ks
 p:a.L=none->a.Q=0
 l:a.J=none->a.P=0
 ls:v.ss.length<=1048576
 lt:v.A.length<=1048576
 lq:v.F.length<=100000000
 lm:v.ms.length<=100000000
 nk:v.ks.length<=600
 np:v.ps.length<=100
 nl:v.ls.length<=200
 cu:∀k∈v.ks,k.B.length<=30
theorem Jv.below{a:Va}(h:Jv w a v)(d:Zz w w'):Jv w' a v:=
 ⟨h.rows.M d,h.s,h.t,h.q,h.m,(fun A e=>by have f:=h.k A e;have c:=h.rows.N.k;rw[e]at c;exact f.af c d),h.p,h.l,h.ls,h.lt,h.lq,h.lm,h.nk,h.np,h.nl,h.cu⟩
theorem Fh(v:Vd)(a:Va)(w:Zh)(h:Jv w a v):
 Calls prog 114 #[.agg (Bh v (.slice a.Z v.ss.length a.j) (.slice a.X v.A.length a.Y) (.slice a.T v.ks.length a.U) (.slice a.L v.ps.length a.Q) (.slice a.J v.ls.length a.P) (.slice a.g v.F.length a.qc) (.slice a.i v.ms.length a.mc)).toArray] w fun e w'=>∃(S U T P L Q M:Value) (rs:Zj),e=.returned (.agg (Bh v S U T P L Q M).toArray)/\AD w' w.heap.size S U T P L Q M rs v/\(∀u∈S::U::Q::M::T::P::L::rs,∃g n c,u=Yz g n c)/\Zz w w':=
 OL v a w (fun X d=>MH _ _ _ _ v.ss v.A X (h.below d).rows.s (h.below d).rows.t h.s h.t h.ls h.lt) (fun X d=>GL _ _ _ _ _ _ _ _ _ _ v.ks v.ps v.ls X (h.below d).rows.N (h.below d).k h.p h.l h.nk h.np h.nl h.cu) (fun X d=>OK _ _ _ _ _ _ _ _ v.F v.ms X (h.below d).rows.q (h.below d).rows.m h.q h.m h.lq h.lm)
def VG(v:Vd)(e:Ed)(lo:Nat)(w:Zh)(o:Ending)(w':Zh):Prop:=
 Below lo w w'/\((∃c p q,Kc v e c p q/\o=.returned (.agg #[Zg c,Ze,Ze,Zb,Zb,Ze,Ze,Ze,Ze,Zb,Zb,Zb,Ze,Zb,Zb,Ze,Ze,Ze,Zc,Ze,.string p,.string q]))\/(∃r S U T P L Q M rs,NM v e r/\o=.returned (.agg (Un (dyes v e r) S U T P L Q M).toArray)/\AD w' lo S U T P L Q M rs (doV v e r)))
theorem US{S U Q M:Value}{c:Zj}{d:Dd}(h:AD X base S U T P L Q M c d.v):(Un d S U T P L Q M).length=22/\∀u∈Un d S U T P L Q M,u.oneCell'=true:=by obtain⟨a,h,_⟩:=h.jb;exact Jt (vs:=Bh d.v S U T P L Q M) ⟨rfl,by rw[h];simp[Bh,Value.oneCell']⟩
theorem VG.form{e:Ed}{lo:Nat}{o:Ending}(h:VG v e lo w o w'):Below lo w w'/\∃(c:Int) (zs tl:Zj),o=.returned (.agg (Zg c::(zs++tl)).toArray)/\zs.length=17/\tl.length=4/\(∀u∈Zg c::(zs++tl),u.oneCell'=true)/\((∃p q,Kc v e c p q/\tl=[Zc,Ze,.string p,.string q])\/(c=0/\∃r S U T P L Q M a,NM v e r/\Zg c::(zs++tl)=Un (dyes v e r) S U T P L Q M/\AD w' lo S U T P L Q M a (doV v e r))):=by
 obtain⟨g,⟨c,p,q,h,rfl⟩|⟨r,S,U,T,P,L,Q,M,a,h,rfl,f⟩⟩:=h
 .exact⟨g,c,Xr,[Zc,Ze,.string p,.string q],rfl,rfl,rfl,by simp[Value.oneCell'],.inl ⟨p,q,h,rfl⟩⟩
 .exact⟨g,0,Bh (doV v e r) S U T P L Q M,[.string r.sm,Zg r.le,Zc,Zc],rfl,rfl,rfl,(US (d:=dyes v e r) f).2,.inr ⟨rfl,r,S,U,T,P,L,Q,M,a,h,rfl,f⟩⟩
theorem Bv{α:Type}:(∀(l:List α) (i:Nat) (a:α),l.toArray.setIfInBounds i a=(l.set i a).toArray)/\(∀(a b:α) (l:List α),(b::l).set 0 a=a::l)/\∀(a b:α) (l:List α) (n:Nat),(b::l).set (n+1) a=b::l.set n a:=
 ⟨fun _ _ _=>Zq _ _ _,fun _ _ _=>rfl,fun _ _ _ _=>rfl⟩
theorem Lm(t u:Zi)(a b:Zk)(c d:Nat)(f g:Zl)(w:Zh)(v:Ab w w.heap.size a f)(r:Ab w w.heap.size b g)(hl:f.length<=100000)(zC:g.length<=1048576):
 Calls prog 139 #[.agg #[.string t,.slice a f.length c],.agg #[.string u,.slice b g.length d]] w fun e w'=>Aq (t=u/\f=g) w w' e:=by
 obtain⟨W,z⟩:∃W,W=(w.alloc (.cells #[.string t,.slice a f.length c] 35)).alloc (.cells #[.string u,.slice b g.length d] 35):=⟨_,rfl⟩;have D:=(Bm z).1;have m:=(Bm z).2.2.1;have n:Aa W (w.heap.size+1) [.string u,.slice b g.length d]:=by have E:=Aa.new (w.alloc (.cells #[.string t,.slice a f.length c] 35)) [.string u,.slice b g.length d] 35;rw[World.size_alloc]at E;rw[z];exact E
 have HX:Hid (∀X,Zz W X->Aa X w.heap.size [.string t,.slice a f.length c]/\Aa X (w.heap.size+1) [.string u,.slice b g.length d]/\Ab X w.heap.size a f/\Ab X w.heap.size b g/\Zz w X):=fun X J=>by have A:=D.trans (J.mono D.size);exact⟨Aa.below m J,Aa.below n J,v.below A,r.below A,A⟩
 obtain⟨y0,L⟩:=Aa.c2 m 0 1;obtain⟨z0,M⟩:=Aa.c2 n 0 1;have C:=Yw z;clear z v r m n;by_cases ht:t=u
 .subst ht;have H:(t.toList !=t.toList)=false:=Yu
  by_cases hlen:f.length=g.length
  .have S:((f.length:Int) !=(g.length:Int))=false:=Yt
   have o:=Yw hlen;clear hlen;go_enter func139,ntmps139;go_upto_region 1 with fail;rw[<-C.o];clear C;go_wp2
   go_loopw [5] (fun i wr=>∃k:Nat,k<=f.length/\i=Zg k/\Hid (f.take k=g.take k/\Zz W wr)) (fun i _=>f.length -(intOf i).toNat)
   case atStart=>exact⟨0,Nat.zero_le _,rfl,⟨Yu,Below.refl _ _⟩⟩
   case round=>
    clear y0 L z0 M;obtain⟨k,hk,rfl,B⟩:=hrel;obtain⟨m,n,v,r,l⟩:=HX.o wr B.o.2;obtain⟨L,_⟩:=m 1 _ rfl;obtain⟨M,_⟩:=n 1 _ rfl;by_cases hlt:k<f.length
    .have j:k<g.length:=by have:=o.o;omega
     obtain⟨rb,ro,ha,V,G⟩:=v.at hlt;obtain⟨qb,qo,A,U,F⟩:=r.at j;subst ha A;have c0:=G k _ (Zv hlt);have d0:=F k _ (Zv j);have zF:=Zr V l.size;have zE:=Zr U l.size;have Q:=Yw (Zu hlt);have R:=Yw (Zu j);have HN:Hid (∀x y,f[k]?=some x->g[k]?=some y->x≠y->f≠g):=fun x y E K T e=>by subst e;rw[E]at K;exact T (Option.some.inj K)
     have O:=Yw (Zv hlt);have P:=Yw (Zv j);have zB:(k:Int)<g.length:=Yv
     clear G F;generalize f[k]=x at *
     generalize g[k]=y at *
     have HB:=Yw B.o.2;have N:=Yw l;clear m n v r l;by_cases hxy:x=y
     .subst hxy;have I:(x.toList !=x.toList)=false:=Yu
      go_wp2
      go_region
      all_goals go_wp2
      all_goals exact⟨⟨k+1,Yv,Yo,⟨by rw[Q.o,R.o,B.o.1],HB.o.drew⟩⟩,by simp[intOf];omega⟩
     .have I:=By hxy;have zA:(x.toList !=y.toList)=true:=by simp[bne,I]
      go_wp2
      go_region
      all_goals go_wp2
      all_goals go_ret
      all_goals exact Aq.no (fun h=>HN.o x y O.o P.o hxy h.2) N.o.drew
    .obtain rfl:k=f.length:=Yv
     have q:=B.o.1;rw[Zt (Zx),Zt (by have:=o.o;omega)]at q;clear m n v r;go_wp2;go_ret;exact Aq.yes ⟨by trivial,q⟩ l
  .have S:((f.length:Int)==(g.length:Int))=false:=Yt
   have Y:((f.length:Int) !=(g.length:Int))=true:=Yt
   go_enter func139,ntmps139;go_upto_region 1 with fail;rw[<-C.o];go_wp2;go_ret;exact Aq.no (fun h=>hlen (by rw[h.2])) D
 .have H:=By ht;have Z:(t.toList !=u.toList)=true:=by simp[bne,H]
  go_enter func139,ntmps139;go_upto_region 1 with fail;rw[<-C.o];go_wp2;go_ret;exact Aq.no (fun h=>ht h.1) D
end Go.Proofs.YtmjlkgpekcnacaaGreat
