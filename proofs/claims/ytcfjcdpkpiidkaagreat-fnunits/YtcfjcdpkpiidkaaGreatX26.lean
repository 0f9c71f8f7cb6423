import Derived.Test.YtcfjcdpkpiidkaaGreatX22
import Derived.Test.YtcfjcdpkpiidkaaGreatX25
import Derived.Test.YtcfjcdpkpiidkaaGreatX06
set_option maxRecDepth 100000
set_option maxHeartbeats 16000000
namespace Go.Proofs.YtcfjcdpkpiidkaaGreat
open ChangeShapes WideShapes ChangeAt RowKit _root_.Go.Proofs.Tryz
variable{n g c base size q b pc lc o tc:Nat}{a:Va}{w w' X:Zh}{e t:TypeId}{v:Vd}{ps:List Pd}{T P L:Value}{ta pa la:Zk}{ls:List Ld}{V:List Nat}
section
structure CT (w:Zh) (base b:Nat) (ta pa la:Zk) (pc lc:Nat) (zs:List (Kd×Value)) (ps:List Pd) (ls:List Ld):Prop where
 tb:ta=some ⟨b,0,none⟩\/zs=[]
 z:Bg w b 0 zs
 bl:b<w.heap.size
 po:w.ownsRow base 48 2 (.slice pa ps.length pc) ps.length (Ag pC ps)
 y:w.ownsRow base 50 3 (.slice la ls.length lc) ls.length (Ag lC ls)
 lb:base<=w.heap.size
 bL:some b≠(Value.slice la ls.length lc).ownBlock
 pL:∀g,(Value.slice pa ps.length pc).ownBlock=some g->(Value.slice la ls.length lc).ownBlock≠some g
 zL:∀z∈zs,∀ad n rc,z.2=.slice (some ad) n rc->z.1.B≠[]->some ad.block≠(Value.slice la ls.length lc).ownBlock
 zb:zs=[]\/base<=b
 zr:∀z∈zs,∀ad n rc,z.2=.slice (some ad) n rc->z.1.B≠[]->base<=ad.block
def MA(base:Nat)(L:Value)(wd now given births:Int)(ks:List Kd)(ps:List Pd)(ls:List Ld)(kd:Int)(s nm:Zi)(num:Int)(text:Zi)(refs:Zl)(w:Zh)(e:Ending)(w':Zh):Prop:=
 Tn L.ownBlock.toList w w'/\(
  (∃c a b,Ja wd now given births ks ps ls kd s nm num text refs c a b/\e=.returned (.agg (BY c a b).toArray))\/
  (∃r b1 ta1 tc1 zs1 pa1 pc1 la1 lc1,Fe wd now given births ks ps ls kd s nm num text refs r/\e=.returned (.agg #[Ze,Zg wd,Zg r.E,Zg r.G,Zg r.C,.slice ta1 r.ks.length tc1,.slice pa1 r.ps.length pc1,.slice la1 r.ls.length lc1,.string r.sm,Zg r.le,Zc,Zc])/\zs1.map (·.1)=r.ks/\CT w' base b1 ta1 pa1 la1 pc1 lc1 zs1 r.ps r.ls))
section
variable {w w':Zh} {base b:Nat} {ta pa la:Zk} {pc lc:Nat} {zs:List (Kd×Value)} {ps:List Pd} {ls:List Ld}
theorem CT.below(h:CT w base b ta pa la pc lc zs ps ls)(a:Zz w w'):CT w' base b ta pa la pc lc zs ps ls:=
 ⟨h.tb,h.z.below a h.bl,Zr h.bl a.size,Al h.po a,Al h.y a,Zm h.lb a.size,h.bL,h.pL,h.zL,h.zb,h.zr⟩
theorem CT.cu(h:CT w base b ta pa la pc lc zs ps ls):AQ w w.heap.size ta (zs.map (·.1)):=by
 rcases h.tb with e|e
 .rw[e];exact h.z.cu h.bl
 .rw[e];exact .inl rfl
theorem CT.fp(h:CT w base b ta pa la pc lc zs ps ls):AM w w.heap.size pa ps:=AM.own h.po
theorem CT.fs(h:CT w base b ta pa la pc lc zs ps ls):AN w w.heap.size la ls:=AN.own h.y
theorem CT.gu(h:CT w base b ta pa la pc lc zs ps ls){a:List Pd}(d:w.ownsRow n 48 2 (Yz g a.length c) a.length (Ag pC a))(i:base<=n)(f:∀q,(Value.slice la ls.length lc).ownBlock=some q->q<n):CT w base b ta (some ⟨g,0,none⟩) la c lc zs a ls:=
 ⟨h.tb,h.z,h.bl,d.mono i,h.y,h.lb,h.bL,fun q j e=>by have k:=(Ac d j).1;have l:=f q e;omega,h.zL,h.zb,h.zr⟩
theorem CT.gw(h:CT w base b ta pa la pc lc zs ps ls){a:List Ld}(f:w.ownsRow n 50 3 (Yz g a.length c) a.length (Ag lC a))(o:base<=n)(v:b<n)(r:∀q,(Value.slice pa ps.length pc).ownBlock=some q->q<n)(u:∀z∈zs,∀d m rc,z.2=.slice (some d) m rc->z.1.B≠[]->d.block<n):CT w base b ta pa (some ⟨g,0,none⟩) pc c zs ps a:=by
 have x:=(Ac f (g:=g) rfl).1;refine⟨h.tb,h.z,h.bl,h.po,f.mono o,h.lb,fun e=> ?_,fun q t e=> ?_,fun z i d m rc j k e=> ?_,h.zb,h.zr⟩
 .have:b=g:=by simpa [Value.ownBlock]using e
  omega
 .have l:g=q:=by simpa [Value.ownBlock]using e
  have:=r q t;omega
 .have l:d.block=g:=by simpa [Value.ownBlock]using e
  have:=u z i d m rc j k;omega
theorem CT.co(h:CT w base b ta pa la pc lc zs ps ls):(∀q,(Value.slice pa ps.length pc).ownBlock=some q->q<w.heap.size)/\(∀q,(Value.slice la ls.length lc).ownBlock=some q->q<w.heap.size)/\∀z∈zs,∀c m rc,z.2=.slice (some c) m rc->z.1.B≠[]->c.block<w.heap.size:=
 ⟨fun _ a=>(Ac h.po a).2,fun _ a=>(Ac h.y a).2,fun _ f _ _ _ d e=>h.z.bu f d e⟩
theorem Dy{a:Zk}{m:Nat}{i:Zj}(h:w.ownsRow base e size (.slice a m c) n i)(f:a=none):c=0:=by
 rcases h.2 with⟨d,_⟩|⟨g,cap,j,d,_⟩
 .injection d
 .injection d with e1;rw[f]at e1;cases e1
end
theorem DE{v:Value}{c:Zj}(h:w.ownsRow base e size v n c)(d:Tn [q] w w')(f:q<base):w'.ownsRow base e size v n c:=
 Aw h (fun g a=>d.block g (Ac h a).2 (by have:=(Ac h a).1;simp;omega))
theorem MB{v:Value}{c:Zj}(h:w.ownsRow base e size v n c)(f:Tn [q] w w')(d:∀g,v.ownBlock=some g->g≠q):w'.ownsRow base e size v n c:=
 Aw h (fun g a=>f.block g (Ac h a).2 (by simp;exact d g a))
theorem BU{a:Zh}(c:Zz w X)(d:Zz X w')(e:Tn [w.heap.size+2] w' a):Below w.heap.size w a:=
 (c.trans (d.mono c.size)).trans (e.below (Zm c.size d.size) (by intro v f;simp at f;omega))
theorem MN(wd now given births f num:Int)(ta pa la ra:Zk)(tc pn pc g lc h rc:Nat)(a:List Kd)(s nm text:Zi)(w:Zh)(k:AQ w w.heap.size ta a)(U:a.length<=1000)(l:¬Ay a s):
 Calls prog 123 #[.agg (Yg wd now given births ta a.length tc pa pn pc la g lc),.agg (Yd f s nm num text ra h rc)] w fun e w'=>e=.returned (.agg (BY 2 ⟨#[]⟩ ⟨#[]⟩).toArray)/\Zz w w':=by
 obtain⟨W,c⟩:=Af (((w.alloc (.cells (Yg wd now given births ta a.length tc pa pn pc la g lc) 27)).alloc (.cells (Yd f s nm num text ra h rc) 118)).alloc (.cells Yc 115));have i:=(Cv c).1;have q:=(Cv c).2.2.1;have t:Aa W (w.heap.size+1) (Xz f s nm num text ra h rc):=by have d:=Aa.new (w.alloc (.cells (Yg wd now given births ta a.length tc pa pn pc la g lc) 27)) (Xz f s nm num text ra h rc) 118;rw[World.size_alloc]at d;rw[c];exact Aa.below d (Zy)
 have r:Aa W (w.heap.size+2) z12:=by have d:=Aa.new ((w.alloc (.cells (Yg wd now given births ta a.length tc pa pn pc la g lc) 27)).alloc (.cells (Yd f s nm num text ra h rc) 118)) z12 115;rw[World.size_alloc,World.size_alloc]at d;rw[c];exact d
 have m:=Yw (Ck wd now given births ta tc (.slice pa pn pc) (.slice la g lc) a s W w.heap.size (AQ.below k i) i.size Yv);have T:=Hk l;have n:=Yw c;have u:=Yw r;obtain⟨v0,B,C,D,E,F,G,H⟩:=AP q;obtain⟨A,_⟩:=t 1 _ rfl;clear c q r t k l;go_enter func123,ntmps123;go_upto_region 1 with fail;rw[<-n.o];clear n;go_wp2_with fail;refine m.Am ?_;rintro e I ⟨rfl,j⟩
 obtain⟨⟨J,Y⟩,⟨K,Z⟩,⟨L,q2⟩,⟨M,q3⟩,⟨N,q4⟩,⟨O,q5⟩,⟨P,q6⟩,⟨Q,q7⟩,⟨R,q8⟩,⟨S,q9⟩,⟨x,V⟩,y,X⟩:=Bw (Aa.below (v:=Ze) u.o j);have o:=i.trans (j.mono i.size);generalize BQ a s=fi at *
 clear v0 B C D E F G H m A;go_wp2;refine bodyPost_ret (v:=.agg (BY 2 ⟨#[]⟩ ⟨#[]⟩).toArray) (by simp[results,results123,go_sem,J,K,L,M,N,O,P,Q,R,S,x,y,BY]) rfl ?_;exact⟨rfl,o.trans (Tn.below (Bv I (w.heap.size+2) _ _ _ _ _ _ _ _ _ _ _ _) o.size (by intro v z;simp at z;omega))⟩
theorem Pc{n:Zi}(s:Zi)(h:¬∃x∈ps,x.name=n):(BD ps n s).length=ps.length+1:=by
 have c:∀(l:List Pd),(¬∃x∈l,x.name=n)->(l.filter (fun x=>less x.name n)).length+(l.filter (fun x=> !(less x.name n)&& !decide (x.name=n))).length=l.length:=by
  intro l;induction l with
  |nil=>intro _;rfl
  |cons x l ih=>intro a;have d:x.name≠n:=fun e=>a ⟨x,Yu,e⟩;have:=ih (fun⟨y,hy,e⟩=>a ⟨y,by simp[hy],e⟩);cases a:less x.name n<;>simp[a,d]<;>omega
 have:=c ps h;unfold BD;rw[List.length_append,List.length_append];simp;omega
def WY(wd now given births num:Int)(zs:List (Kd×Value))(ps:List Pd)(ls:List Ld)(s:Zi)(X:Zh)(e:Ending)(w':Zh):Prop:=
 Below X.heap.size X w'/\(((ls.length=200\/given=1000000000)/\e=.returned (.agg (BY 4 ⟨#[]⟩ ⟨#[]⟩).toArray))\/
  ((ls.length<200/\given<1000000000)/\∃b1 tc1 zs1 p1 pc1 g c,e=.returned (.agg #[Ze,Zg wd,Zg now,Zg (given+1),Zg births,.slice (some ⟨b1,0,none⟩) zs.length tc1,.slice (some ⟨p1,0,none⟩) ps.length pc1,.slice (some ⟨g,0,none⟩) (ls.length+1) c,Zc,Zg (given+1),Zc,Zc])/\zs1.map (·.1)=zs.map (·.1)/\w'.ownsRow X.heap.size 65 4 (.slice (some ⟨b1,0,none⟩) zs1.length tc1) zs1.length (Ag kC zs1)/\(∀z∈zs1,∃g' c',z.2=.slice (some ⟨g',0,none⟩) z.1.B.length c'/\w'.ownsRow X.heap.size 9 1 z.2 z.1.B.length (z.1.B.map Value.string))/\w'.ownsRow X.heap.size 48 2 (.slice (some ⟨p1,0,none⟩) ps.length pc1) ps.length (Ag pC ps)/\w'.ownsRow X.heap.size 50 3 (.slice (some ⟨g,0,none⟩) (ls.length+1) c) (ls++[(⟨given+1,s,now+num⟩:Ld)]).length (Ag lC (ls++[(⟨given+1,s,now+num⟩:Ld)]))/\b1≠g/\p1≠g/\∀z∈zs1,∀ad n rc,z.2=.slice (some ad) n rc->ad.block≠g))
theorem Bg.some{off:Nat}{zs:List (Kd×Value)}(h:Bg w b off zs):KI w ⟨b,off,none⟩ (zs.map (·.1)):=by intro i k a;rw[List.getElem?_map]at a;obtain⟨z,f,rfl⟩:=Option.map_eq_some_iff.1 a;obtain⟨⟨_,_,_,d⟩,c,rc,e,_⟩:=h i z f;exact⟨c,rc,by rw[d,e]⟩
theorem Oq{T P L:Option Nat}{R:List Nat}{l:Nat}(h:(T.toList++(P.toList++(L.toList++R))).Nodup)(a:L=some l):T≠some l/\P≠some l/\l∉R:=by subst a;cases T<;>cases P<;>simp_all<;>grind
section
variable (base:Nat) (wd now given births:Int) (b:Nat) (ta pa la:Zk) (tc pc lc:Nat) (zs:List (Kd×Value)) (ps:List Pd) (ls:List Ld) (s nm text:Zi) (num:Int) (refs:Zl) (ra:Zk) (rc:Nat) (w:Zh)
theorem TY(h:CT w base b ta pa la pc lc zs ps ls)(m:IA wd now given births (zs.map (·.1)) ps ls 3 num text refs):
 Calls prog 98 #[.agg (Yg wd now given births ta zs.length tc pa ps.length pc la ls.length lc),.agg (Yd 3 s nm num text ra refs.length rc)] w (MA base (.slice la ls.length lc) wd now given births (zs.map (·.1)) ps ls 3 s nm num text refs w):=by
 refine CV 3 124 _ wd now given births ta pa la zs.length tc ps.length pc ls.length lc s nm text num ra refs.length rc w [] (fun X e w'=>PB X w' e wd now given births (.slice ta zs.length tc) (.slice la ls.length lc) ps nm) _ (.inr (.inr (.inl ⟨rfl,rfl,rfl⟩))) Yu (fun X a _=>OU wd now given births ta la pa zs.length tc ls.length lc pc ps nm X (h.below a).fp (by have:=m.np;omega)) ?_ ?_
 .rintro X e w' ⟨d,⟨_,rfl⟩|⟨_,g,c,rfl,_⟩⟩
  .exact⟨Tn.of d,_,_,_,_,_,_,_,_,_,_,_,_,_,_,_,_,_,_,rfl⟩
  .exact⟨Tn.of d,_,_,_,_,_,_,_,_,_,_,_,_,_,_,_,_,_,_,rfl⟩
 .rintro X e w' t a u ⟨d,⟨k,rfl⟩|⟨f,g,c,rfl,o⟩⟩ i
  .exact⟨Tn.of (BU a d i),.inl ⟨5,_,_,.inr ⟨rfl,rfl,.inr (.inl ⟨rfl,k,rfl⟩)⟩,rfl⟩⟩
  .have j:=BU a d i;have n:=h.below j;have l:=DE o i Yv;exact⟨Tn.of j,.inr ⟨⟨⟨#[]⟩,0,now,given,births,zs.map (·.1),Bm ps nm,ls⟩,b,ta,tc,zs,_,c,la,lc,.inr (.inr (.inl ⟨rfl,f,rfl⟩)),by rw[List.length_map],rfl,n.gu l (Zm h.lb a.size) (fun q r=>Zr (h.co.2.1 q r) a.size)⟩⟩
theorem TZ(h:CT w base b ta pa la pc lc zs ps ls)(u:IA wd now given births (zs.map (·.1)) ps ls 5 num text refs):
 Calls prog 98 #[.agg (Yg wd now given births ta zs.length tc pa ps.length pc la ls.length lc),.agg (Yd 5 s nm num text ra refs.length rc)] w (MA base (.slice la ls.length lc) wd now given births (zs.map (·.1)) ps ls 5 s nm num text refs w):=by
 refine CV 5 126 _ wd now given births ta pa la zs.length tc ps.length pc ls.length lc s nm text num ra refs.length rc w [] (fun X e w'=>Si X w' e wd now given births (.slice ta zs.length tc) (.slice pa ps.length pc) ls num) _ (.inr (.inr (.inr (.inl ⟨rfl,rfl,rfl⟩)))) Yu (fun X d _=>QJ wd now given births ta pa la zs.length tc ps.length pc lc ls num X (h.below d).fs (by have:=u.nl;omega)) ?_ ?_
 .rintro X e w' ⟨f,⟨_,rfl⟩|⟨_,g,c,rfl,_⟩⟩
  .exact⟨Tn.of f,_,_,_,_,_,_,_,_,_,_,_,_,_,_,_,_,_,_,rfl⟩
  .exact⟨Tn.of f,_,_,_,_,_,_,_,_,_,_,_,_,_,_,_,_,_,_,rfl⟩
 .rintro X e w' A d l ⟨f,⟨m,rfl⟩|⟨i,g,c,rfl,x⟩⟩ j
  .exact⟨Tn.of (BU d f j),.inl ⟨5,_,_,.inr ⟨rfl,rfl,.inr (.inr (.inr (.inl ⟨rfl,m,rfl⟩)))⟩,rfl⟩⟩
  .have k:=BU d f j;have v:=h.below k;have o:=DE x j Yv;exact⟨Tn.of k,.inr ⟨⟨⟨#[]⟩,0,now,given,births,zs.map (·.1),ps,Bx ls num⟩,b,ta,tc,zs,pa,pc,_,c,.inr (.inr (.inr (.inr (.inl ⟨rfl,i,rfl⟩)))),by rw[List.length_map],rfl,v.gw o (Zm h.lb d.size) (Zr h.bl d.size) (fun q y=>Zr (h.co.1 q y) d.size) (fun z l a n c r t=>Zr (h.co.2.2 z l a n c r t) d.size)⟩⟩
theorem Ua(h:CT w base b ta pa la pc lc zs ps ls)(f:IA wd now given births (zs.map (·.1)) ps ls 6 num text refs):
 Calls prog 98 #[.agg (Yg wd now given births ta zs.length tc pa ps.length pc la ls.length lc),.agg (Yd 6 s nm num text ra refs.length rc)] w (MA base (.slice la ls.length lc) wd now given births (zs.map (·.1)) ps ls 6 s nm num text refs w):=by
 refine CV 6 127 _ wd now given births ta pa la zs.length tc ps.length pc ls.length lc s nm text num ra refs.length rc w [] (fun X e w'=>Sp X w' e wd now given births (.slice ta zs.length tc) (.slice pa ps.length pc) ls num) _ (.inr (.inr (.inr (.inr (.inl ⟨rfl,rfl,rfl⟩))))) Yu (fun X d _=>QP wd now given births ta pa la zs.length tc ps.length pc lc ls num X (h.below d).fs (by have:=f.nl;omega) f.cz f.ci f.ib f.gy) ?_ ?_
 .rintro X e w' ⟨i,⟨_,rfl⟩|⟨_,g,c,rfl,_⟩⟩
  .exact⟨Tn.of i,_,_,_,_,_,_,_,_,_,_,_,_,_,_,_,_,_,_,rfl⟩
  .exact⟨Tn.of i,_,_,_,_,_,_,_,_,_,_,_,_,_,_,_,_,_,_,rfl⟩
 .rintro X e w' A d m ⟨i,⟨o,rfl⟩|⟨j,g,c,rfl,x⟩⟩ k
  .exact⟨Tn.of (BU d i k),.inl ⟨4,_,_,.inr ⟨rfl,rfl,.inr (.inr (.inr (.inr (.inl ⟨rfl,o,rfl⟩))))⟩,rfl⟩⟩
  .have l:=BU d i k;have v:=h.below l;have r:=DE x k Yv;exact⟨Tn.of l,.inr ⟨⟨⟨#[]⟩,0,now+num,given,births,zs.map (·.1),ps,Cf ls (now+num)⟩,b,ta,tc,zs,pa,pc,_,c,.inr (.inr (.inr (.inr (.inr (.inl ⟨rfl,j,rfl⟩))))),by rw[List.length_map],rfl,v.gw r (Zm h.lb d.size) (Zr h.bl d.size) (fun q y=>Zr (h.co.1 q y) d.size) (fun z m a n c t u=>Zr (h.co.2.2 z m a n c t u) d.size)⟩⟩
theorem Ub(h:CT w base b ta pa la pc lc zs ps ls)(j:IA wd now given births (zs.map (·.1)) ps ls 2 num text refs):
 Calls prog 98 #[.agg (Yg wd now given births ta zs.length tc pa ps.length pc la ls.length lc),.agg (Yd 2 s nm num text ra refs.length rc)] w (MA base (.slice la ls.length lc) wd now given births (zs.map (·.1)) ps ls 2 s nm num text refs w):=by
 have m:(zs.map (·.1)).length<=1000:=by have:=j.bt.len;omega
 by_cases hth:Ay (zs.map (·.1)) s
 .refine CV 2 123 _ wd now given births ta pa la zs.length tc ps.length pc ls.length lc s nm text num ra refs.length rc w [] (fun X e w'=>UB X w' e wd now given births (.slice ta zs.length tc) (.slice la ls.length lc) ps nm s) _ (.inr (.inl ⟨rfl,rfl,rfl⟩)) Yu (fun X a _=> ?_) ?_ ?_
  .have i:=Sk wd now given births 2 num ta pa la ra tc pc lc ls.length refs.length rc (zs.map (·.1)) ps nm s text X (h.below a).cu (h.below a).fp m (by have:=j.np;omega) hth j.cg;rw[List.length_map]at i;exact i
  .rintro X e w' ⟨d,⟨_,rfl⟩|⟨_,g,c,rfl,_⟩⟩
   .exact⟨Tn.of d,_,_,_,_,_,_,_,_,_,_,_,_,_,_,_,_,_,_,rfl⟩
   .exact⟨Tn.of d,_,_,_,_,_,_,_,_,_,_,_,_,_,_,_,_,_,_,rfl⟩
  .rintro X e w' u a B ⟨d,⟨C,rfl⟩|⟨v,g,c,rfl,z⟩⟩ k
   .have o:=JM ps nm s;have r:¬∃x∈ps,x.name=nm:=fun l=>by have:=o.2 l;have:=j.np;omega
    exact⟨Tn.of (BU a d k),.inl ⟨4,_,_,.inr ⟨rfl,rfl,.inl ⟨rfl,.inr ⟨hth,r,by have:=o.1;have:=j.np;omega,rfl⟩⟩⟩,rfl⟩⟩
   .have n:=BU a d k;have y:=h.below n;have t:=DE z k Yv;have f:(∃x∈ps,x.name=nm)\/ps.length<100:=by
     by_cases l:∃x∈ps,x.name=nm
     .exact .inl l
     .have:=Pc s l;exact .inr Yv
    exact⟨Tn.of n,.inr ⟨⟨⟨#[]⟩,0,now,given,births,zs.map (·.1),BD ps nm s,ls⟩,b,ta,tc,zs,_,c,la,lc,.inr (.inl ⟨rfl,hth,f,rfl⟩),by rw[List.length_map],rfl,y.gu t (Zm h.lb a.size) (fun q A=>Zr (h.co.2.1 q A) a.size)⟩⟩
 .refine CV 2 123 _ wd now given births ta pa la zs.length tc ps.length pc ls.length lc s nm text num ra refs.length rc w [] (fun X e w'=>e=.returned (.agg (BY 2 ⟨#[]⟩ ⟨#[]⟩).toArray)/\Zz X w') _ (.inr (.inl ⟨rfl,rfl,rfl⟩)) Yu (fun X a _=> ?_) ?_ ?_
  .have i:=MN wd now given births 2 num ta pa la ra tc ps.length pc ls.length lc refs.length rc (zs.map (·.1)) s nm text X (h.below a).cu m hth;rw[List.length_map]at i;exact i
  .rintro X e w' ⟨rfl,d⟩;exact⟨Tn.of d,_,_,_,_,_,_,_,_,_,_,_,_,_,_,_,_,_,_,rfl⟩
  .rintro X e w' u a B ⟨rfl,d⟩ k;exact⟨Tn.of (BU a d k),.inl ⟨2,_,_,.inr ⟨rfl,rfl,.inl ⟨rfl,.inl ⟨hth,rfl⟩⟩⟩,rfl⟩⟩
theorem Uc(h:CT w base b ta pa la pc lc zs ps ls)(j:IA wd now given births (zs.map (·.1)) ps ls 4 num text refs)(zI:∀k∈zs.map (·.1),k.B.length<=30):
 Calls prog 98 #[.agg (Yg wd now given births ta zs.length tc pa ps.length pc la ls.length lc),.agg (Yd 4 s nm num text ra refs.length rc)] w (MA base (.slice la ls.length lc) wd now given births (zs.map (·.1)) ps ls 4 s nm num text refs w):=by
 have zK:(zs.map (·.1)).length<=600:=j.bt.len;refine MM wd now given births ta pa la zs.length tc ps.length pc ls.length lc s nm text num ra refs.length rc w (BQ (zs.map (·.1)) s) (WY wd now given births num zs ps ls s) _ (fun X x=> ?_) (fun h0 X x t=> ?_) ?_ ?_ ?_
 .have Q:=Ck wd now given births ta tc (.slice pa ps.length pc) (.slice la ls.length lc) (zs.map (·.1)) s X X.heap.size (h.below x).cu (Zx) Yv;rw[List.length_map]at Q;exact Q
 .have u:=h.below x;have Q:=Ie wd now given births ta pa la tc pc lc (zs.map (·.1)) ps ls X ⟨u.cu,u.fp,u.fs⟩ (fun A hA=>by
   rcases u.tb with e|e
   .rw[e]at hA;cases hA;exact u.z.some
   .rw[e];intro i k hk;simp at hk) (Dy u.po) (Dy u.y) zK j.np j.nl zI
  rw[List.length_map]at Q;refine Q.mono ?_;rintro e w' ⟨T,P',L',rs,rfl,d,K,m⟩;obtain⟨E,n1,J,rfl⟩:=K T Yu;obtain⟨M,n2,I,rfl⟩:=K P' Yu;obtain⟨L,n3,zS,rfl⟩:=K L' Yu;obtain⟨_,_,o⟩:=As d.aj;obtain⟨_,_,G⟩:=As d.pins;obtain⟨_,_,P⟩:=As d.aq;cases o;cases G;cases P;refine⟨⟨_,_,_,_,_,_,_,_,_,rfl,fun Y D=> ?_⟩,m⟩
  refine(GZ wd now given births (some ⟨E,0,none⟩) (some ⟨M,0,none⟩) (some ⟨L,0,none⟩) _ J ps.length I zS X.heap.size ls s num Y (Al d.aq D) (Zm m.size D.size) (by have:=j.nl;omega) j.br j.bi j.cz j.ci j.ib j.gy).mono ?_;rintro e w3 ⟨y,W⟩;have zV:X.heap.size<=L:=(Ac d.aq rfl).1
  have zJ:Below X.heap.size X w3:=(m.trans (D.mono m.size)).trans (y.below (Zm m.size D.size) (by intro v K;simp[Value.ownBlock]at K;omega));refine⟨zJ,?_⟩;rcases W with⟨B,rfl⟩|⟨⟨V,R⟩,g,c,rfl,ho,U⟩
  .exact .inl ⟨by have:=j.nl;have:=j.bi;omega,rfl⟩
  .have Z:=d.nd;rw[EJ]at Z;unfold BS at Z;obtain⟨n1,n2,n3⟩:=Oq Z (l:=L) rfl;have f:∀{e:TypeId} {size:Nat} {v:Value} {n:Nat} {xs:Zj},w'.ownsRow X.heap.size e size v n xs->v.ownBlock≠some L->w3.ownsRow X.heap.size e size v n xs:=fun {e size v n xs} ho1 hne=>Aw (Al ho1 D) (fun q hq=>y.block q (Ac (Al ho1 D) hq).2 (fun e=>by simp[Value.ownBlock]at e;exact hne (by rw[hq,e])))
   have hlen:((zs.map (·.1)).zip rs).length=zs.length:=by rw[List.length_zip,d.len,List.length_map];omega
   refine .inr ⟨⟨V,R⟩,E,J,(zs.map (·.1)).zip rs,M,I,g,c,Yu,?_,?_,?_,f d.pins n2,ho,?_,?_,?_⟩
   .rw[List.map_fst_zip (by rw[d.len];exact Zx)]
   .have h2:=f d.aj n1;rw[hlen];rw[List.length_map]at h2;exact h2
   .intro z t;obtain⟨i,r⟩:=List.getElem?_of_mem t;rw[List.getElem?_zip_eq_some]at r;have hr:=d.B i z.1 z.2 r.1 r.2;obtain⟨C,n',O,F⟩:=K z.2 (by simp;exact .inr (.inr (.inr (Zs r.2))));obtain⟨a',zU,zE⟩:=As hr;rw[F]at zE;cases zE;refine⟨C,O,F,f hr (fun e=>n3 ?_)⟩;exact List.mem_filterMap.2 ⟨z.2,Zs r.2,e⟩
   .have q1:=(Ac d.aj (g:=E) rfl).2;have q2:=D.size;rcases U with H|H
    .have o:L=g:=by simpa [Value.ownBlock]using H
     intro e;exact n1 (by simp[Value.ownBlock];omega)
    .omega
   .have q1:=(Ac d.pins (g:=M) rfl).2;have q2:=D.size;rcases U with H|H
    .have o:L=g:=by simpa [Value.ownBlock]using H
     intro e;exact n2 (by simp[Value.ownBlock];omega)
    .omega
   .intro z t a n' O G;obtain⟨i,r⟩:=List.getElem?_of_mem t;rw[List.getElem?_zip_eq_some]at r;have hr:=d.B i z.1 z.2 r.1 r.2;obtain⟨C,m',d',P⟩:=K z.2 (by simp;exact .inr (.inr (.inr (Zs r.2))));rw[P]at G;cases G;have q1:=(Ac hr (g:=C) (by rw[P];rfl)).2;have q2:=D.size;show C≠g;rcases U with H|H
    .have o:L=g:=by simpa [Value.ownBlock]using H
     intro e;exact n3 (List.mem_filterMap.2 ⟨z.2,Zs r.2,by rw[P];simp[Value.ownBlock];omega⟩)
    .omega
 .rintro X e w' x ⟨m,⟨_,rfl⟩|⟨_,E,J,zA,M,I,g,c,rfl,_⟩⟩
  .exact⟨m,_,_,_,_,_,_,_,_,_,_,_,_,_,_,_,_,_,_,rfl⟩
  .exact⟨m,_,_,_,_,_,_,_,_,_,_,_,_,_,_,_,_,_,_,rfl⟩
 .intro zT w' m;have N:¬Ay (zs.map (·.1)) s:=fun y=>by obtain⟨i,k,e,_⟩:=LC y;omega
  exact⟨Tn.of m,.inl ⟨2,_,_,.inr ⟨rfl,rfl,.inr (.inr (.inl ⟨rfl,.inl ⟨N,rfl⟩⟩))⟩,rfl⟩⟩
 .rintro h0 X e w' zH x t ⟨m,hQ⟩ y;have N:Ay (zs.map (·.1)) s:=Classical.byContradiction fun hn=>by have:=Hk hn;omega
  have hB:=BU x m y;rcases hQ with⟨B,rfl⟩|⟨⟨V,R⟩,E,J,zA,M,I,g,c,rfl,hm,hk,zG,zO,W,zB,zC,zP⟩
  .exact⟨Tn.of hB,.inl ⟨4,_,_,.inr ⟨rfl,rfl,.inr (.inr (.inl ⟨rfl,.inr ⟨N,B,rfl⟩⟩))⟩,rfl⟩⟩
  .have S:=DE hk y Yv;have zN:=DE zO y Yv;have zF:=DE W y Yv;have zR:Bg zH E 0 zA:=Bg.own S (fun z t=>by
    obtain⟨C,O,F,ho⟩:=zG z t;rw[F]at ho;exact⟨⟨C,0,none⟩,O,F,Ab.own (DE ho y Yv)⟩)
   refine⟨Tn.of hB,.inr ⟨⟨⟨#[]⟩,given+1,now,given+1,births,zs.map (·.1),ps,ls++[⟨given+1,s,now+num⟩]⟩,E,some ⟨E,0,none⟩,J,zA,some ⟨M,0,none⟩,I,some ⟨g,0,none⟩,c,.inr (.inr (.inr (.inl ⟨rfl,N,V,R,rfl⟩))),Yu,hm,⟨.inl rfl,zR,(Ac S rfl).2,zN.mono (Zm h.lb x.size),?_,Zm h.lb hB.size,by simp[Value.ownBlock];exact zB,fun q hq e=> ?_,fun z t a n c o _ e=> ?_,.inr (Zm (Zm h.lb x.size) (Ac S rfl).1),fun z t a n c o _=> ?_⟩⟩⟩
   .have h4:zH.ownsRow X.heap.size 50 3 (Yz g (ls++[(⟨given+1,s,now+num⟩:Ld)]).length c) (ls++[(⟨given+1,s,now+num⟩:Ld)]).length (Ag lC (ls++[(⟨given+1,s,now+num⟩:Ld)])):=by rw[List.length_append]at zF |-;exact zF
    exact h4.mono (Zm h.lb x.size)
   .have o:M=q:=by simpa [Value.ownBlock]using hq
    have G:g=q:=by simpa [Value.ownBlock]using e
    exact zC (o.trans G.symm)
   .have G:a.block=g:=by simpa [Value.ownBlock]using e
    exact zP z t a n c o G
   .obtain⟨C,O,F,zM⟩:=zG z t;rw[F]at o;cases o;have q1:=(Ac zM (g:=C) (by rw[F];rfl)).1;have q2:=h.lb;have q3:=x.size;show base<=C;omega
theorem Ud(h:CT w base b ta pa la pc lc zs ps ls)(o:IA wd now given births (zs.map (·.1)) ps ls 7 num text refs):
 Calls prog 98 #[.agg (Yg wd now given births ta zs.length tc pa ps.length pc la ls.length lc),.agg (Yd 7 s nm num text ra refs.length rc)] w (MA base (.slice la ls.length lc) wd now given births (zs.map (·.1)) ps ls 7 s nm num text refs w):=by
 have x:=o.bt.len;have A:zs.length<=600:=by rwa[List.length_map]at x
 by_cases hth:Ay (zs.map (·.1)) s
 .obtain rfl:ta=some ⟨b,0,none⟩:=h.tb.resolve_right (fun e=>by obtain⟨u,hu,_⟩:=hth;rw[e]at hu;simp at hu)
  refine CV 7 128 _ wd now given births (some ⟨b,0,none⟩) pa la zs.length tc ps.length pc ls.length lc s nm text num ra refs.length rc w [] (fun X e w'=>Py X w' e wd now given births (.slice pa ps.length pc) (.slice la ls.length lc) zs ps ls s) _ (.inr (.inr (.inr (.inr (.inr (⟨rfl,rfl,rfl⟩)))))) Yu (fun X d _=>KO wd now given births b 0 tc pc lc pa la zs ps ls s X (h.below d).z (h.below d).bl (h.below d).fp (h.below d).fs A o.np o.nl (fun z i=>(o.bt.B z.1 (List.mem_map.2 ⟨z,i,rfl⟩)).1) hth) ?_ ?_
  .rintro X e w' ⟨f,⟨_,rfl⟩|⟨_,g,c,rfl,_⟩⟩
   .exact⟨Tn.of f,_,_,_,_,_,_,_,_,_,_,_,_,_,_,_,_,_,_,rfl⟩
   .exact⟨Tn.of f,_,_,_,_,_,_,_,_,_,_,_,_,_,_,_,_,_,_,rfl⟩
  .rintro X e w' C d i ⟨f,⟨q,rfl⟩|⟨l,g,c,rfl,B,G,r⟩⟩ k
   .exact⟨Tn.of (BU d f k),.inl ⟨6,_,_,.inr ⟨rfl,rfl,.inr (.inr (.inr (.inr (.inr ⟨rfl,.inr ⟨hth,q,rfl⟩⟩))))⟩,rfl⟩⟩
   .have t:=BU d f k;have j:=h.below t;have y:=B.J k r Yt (fun z i a n c D E v=>by
     simp at v;have:=h.z.bu (List.mem_filter.1 i).1 D E;omega)
    exact⟨Tn.of t,.inr ⟨⟨⟨#[]⟩,0,now,given,births,Bt (zs.map (·.1)) s,ps,ls⟩,g,_,c,By zs s,pa,pc,la,lc,.inr (.inr (.inr (.inr (.inr (.inr ⟨rfl,hth,l,rfl⟩))))),by simp[<-IV],IV zs s,⟨.inl rfl,y,Zr r k.size,j.po,j.y,j.lb,fun e=>by have m:=h.co.2.1 g e.symm;have F:=d.size;omega,j.pL,fun z i=>j.zL z (List.mem_filter.1 i).1,.inr (by have m:=h.lb;have F:=d.size;omega),fun z i=>j.zr z (List.mem_filter.1 i).1⟩⟩⟩
 .refine CV 7 128 _ wd now given births ta pa la zs.length tc ps.length pc ls.length lc s nm text num ra refs.length rc w [] (fun X e w'=>e=.returned (.agg (BY 2 ⟨#[]⟩ ⟨#[]⟩).toArray)/\Zz X w') _ (.inr (.inr (.inr (.inr (.inr (⟨rfl,rfl,rfl⟩)))))) Yu (fun X d _=> ?_) ?_ ?_
  .have m:=LF wd now given births ta pa la tc ps.length pc ls.length lc (zs.map (·.1)) s X (h.below d).cu Yv hth;rw[List.length_map]at m;exact m
  .rintro X e w' ⟨rfl,f⟩;exact⟨Tn.of f,_,_,_,_,_,_,_,_,_,_,_,_,_,_,_,_,_,_,rfl⟩
  .rintro X e w' C d i ⟨rfl,f⟩ k;exact⟨Tn.of (BU d f k),.inl ⟨2,_,_,.inr ⟨rfl,rfl,.inr (.inr (.inr (.inr (.inr ⟨rfl,.inl ⟨hth,rfl⟩⟩))))⟩,rfl⟩⟩
theorem Ue(h:CT w base b ta pa la pc lc zs ps ls)(d:IA wd now given births (zs.map (·.1)) ps ls 1 num text refs)(hr:Ab w w.heap.size ra refs)(W:ra=none->refs.length=0/\rc=0):
 Calls prog 98 #[.agg (Yg wd now given births ta zs.length tc pa ps.length pc la ls.length lc),.agg (Yd 1 s nm num text ra refs.length rc)] w (MA base (.slice la ls.length lc) wd now given births (zs.map (·.1)) ps ls 1 s nm num text refs w):=by
 refine CV 1 122 _ wd now given births ta pa la zs.length tc ps.length pc ls.length lc s nm text num ra refs.length rc w (Value.slice la ls.length lc).ownBlock.toList (fun X e w'=>QS base b wd now given births num zs (.slice pa ps.length pc) (.slice la ls.length lc) ls text refs X e w') _ (.inl ⟨rfl,rfl,rfl⟩) (fun q f=>h.co.2.1 q (by simpa using f)) (fun X i _=>Sy base wd now given births 1 num ta b tc zs pa la ps.length pc lc ls s nm text refs ra rc X ⟨h.tb,W,(h.below i).z,(h.below i).bl,Al h.y i,Zm h.lb i.size,h.bL,h.zL,Ab.mono (Ab.below hr i) i.size,d.bt,d.w1,fun z m=>d.cn z.1 (List.mem_map.2 ⟨z,m,rfl⟩),d.txl,d.rfn,d.az,d.ak,d.br,d.bi,d.cz,d.ci,d.ib,d.gy,d.nl⟩) ?_ ?_
 .rintro X e w' ⟨l,⟨c,a,J,_,rfl⟩|⟨v,ak,g,K,G,o,c2,_,_,_,_,rfl,_⟩⟩
  .exact⟨l,_,_,_,_,_,_,_,_,_,_,_,_,_,_,_,_,_,_,rfl⟩
  .exact⟨l,_,_,_,_,_,_,_,_,_,_,_,_,_,_,_,_,_,_,rfl⟩
 .rintro X e w' zE i m ⟨Y,hQ⟩ l;have r:=Y;have I:=Tn.fresh ((Tn.of i).trans r) l Yv;rcases hQ with⟨c,a,J,U,rfl⟩|⟨v,ak,g,K,G,o,c2,x,y,S,O,rfl,M,zB,A,B,F,C,ho,Q,zA⟩
  .exact⟨I,.inl ⟨c,a,J,.inl ⟨rfl,U⟩,rfl⟩⟩
  .have P:g≠w.heap.size+2:=by have:=h.bl;rcases B with⟨e,_⟩|e<;>omega
   have Z:=zB.J l A (by simp;exact P) (fun z m a n c k H R=>by
    simp at R;rcases F z m with u|⟨N,n',zC,t,T⟩
    .have:=h.z.bu u k H;omega
    .rw[k]at t;cases t;omega)
   have zG:o≠w.heap.size+2:=by
    rcases C with e|e
    .have:=h.co.2.1 o e;omega
    .omega
   have D:=MB ho l (by intro q f;have:o=q:=by simpa [Value.ownBlock]using f
                       omega)
   have E:=Al h.po i;have V:=MB (Aw E (w':=w') (fun q f=>r.block q (Ac E f).2 (fun e=>h.pL q f (by simpa using e)))) l (by intro q f;have:=h.co.1 q f;omega);have zF:=i.size;have h4:zE.ownsRow base 50 3 (Yz o (ls++[(⟨given+1,Ch text refs wd,now+num⟩:Ld)]).length c2) (ls++[(⟨given+1,Ch text refs wd,now+num⟩:Ld)]).length (Ag lC (ls++[(⟨given+1,Ch text refs wd,now+num⟩:Ld)])):=by rw[List.length_append]at D |-;exact D
   refine⟨I,.inr ⟨⟨Ch text refs wd,given+1,now,given+1,ak,v,ps,ls++[⟨given+1,Ch text refs wd,now+num⟩]⟩,g,_,K,G,pa,pc,_,c2,.inl ⟨rfl,x,S,O,v,ak,y,rfl⟩,by simp[<-M],M,⟨.inl rfl,Z,Zr A l.size,V,h4,Zm h.lb I.size,by simp[Value.ownBlock];exact Q,fun q f e=> ?_,fun z m a n c j k e=> ?_,?_,fun z m a n c j k=> ?_⟩⟩⟩
   .have j:o=q:=by simpa [Value.ownBlock]using e
    have:=h.co.1 q f;rcases C with L|L
    .exact h.pL q f (by rw[L,j])
    .omega
   .have H:a.block=o:=by simpa [Value.ownBlock]using e
    exact zA z m a n c j k H
   .rcases B with⟨j,k⟩|j
    .rw[j,k];exact h.zb
    .exact .inr (by have:=h.lb;omega)
   .rcases F z m with u|⟨N,n',zC,t,T⟩
    .exact h.zr z u a n c j k
    .rw[j]at t;cases t;have:=h.lb;omega
theorem JQ(a:Int)(h:CT w base b ta pa la pc lc zs ps ls)(c:IA wd now given births (zs.map (·.1)) ps ls a num text refs)(d:∀k∈zs.map (·.1),k.B.length<=30)(f:Ab w w.heap.size ra refs)(e:ra=none->refs.length=0/\rc=0):
 Calls prog 98 #[.agg (Yg wd now given births ta zs.length tc pa ps.length pc la ls.length lc),.agg (Yd a s nm num text ra refs.length rc)] w (MA base (.slice la ls.length lc) wd now given births (zs.map (·.1)) ps ls a s nm num text refs w):=by
 obtain rfl|rfl|rfl|rfl|rfl|rfl|rfl:a=1\/a=2\/a=3\/a=4\/a=5\/a=6\/a=7:=by have:=c.kd1;have:=c.kd7;omega
 .exact Ue base wd now given births b ta pa la tc pc lc zs ps ls s nm text num refs ra rc w h c f e
 .exact Ub base wd now given births b ta pa la tc pc lc zs ps ls s nm text num refs ra rc w h c
 .exact TY base wd now given births b ta pa la tc pc lc zs ps ls s nm text num refs ra rc w h c
 .exact Uc base wd now given births b ta pa la tc pc lc zs ps ls s nm text num refs ra rc w h c d
 .exact TZ base wd now given births b ta pa la tc pc lc zs ps ls s nm text num refs ra rc w h c
 .exact Ua base wd now given births b ta pa la tc pc lc zs ps ls s nm text num refs ra rc w h c
 .exact Ud base wd now given births b ta pa la tc pc lc zs ps ls s nm text num refs ra rc w h c
end
end
theorem Uf{ra:Zk}{rc:Nat}{a:Zl}(h:w.ownsRow base 9 1 (.slice ra a.length rc) a.length (a.map Value.string)):Ab w w.heap.size ra a/\(ra=none->a.length=0/\rc=0):=by
 rcases h.2 with⟨c,d⟩|⟨g,cap,i,c,_,_,f,_⟩
 .injection c with e1 e2 e3;subst e1;exact⟨.inl (List.eq_nil_of_length_eq_zero d),fun _=>⟨d,e3⟩⟩
 .cases c;exact⟨Ab.own h,fun e=>by cases e⟩
theorem CT.low{zs:List (Kd×Value)}(h:CT w base b ta pa la pc lc zs ps ls)(f:Tn V w w')(j:∀q∈V,q<base):CT w' base b ta pa la pc lc zs ps ls:=by
 have m:∀{e:TypeId} {size:Nat} {v:Value} {n:Nat} {xs:Zj},w.ownsRow base e size v n xs->w'.ownsRow base e size v n xs:=fun h=>Aw h (fun g l=>f.block g (Ac h l).2 (fun e=>by have t:=j g e;have u:=(Ac h l).1;omega));refine⟨h.tb,?_,Zr h.bl f.size,m h.po,m h.y,Zm h.lb f.size,h.bL,h.pL,h.zL,h.zb,h.zr⟩;rcases h.zb with e|e
 .rw[e];intro i z k;simp at k
 .exact h.z.J f h.bl (fun d=>by have:=j b d;omega) (fun z k a n c o r d=>by have t:=j _ d;have u:=h.zr z k a n c o r;omega)
theorem WG{j k l m n o q:Value}(h:Aa w b [j,k,l,m,n,o,q])(a c d e f g i:Value):Aa (((((((w.setCell (Zd b 0) a).setCell (Zd b 1) c).setCell (Zd b 2) d).setCell (Zd b 3) e).setCell (Zd b 4) f).setCell (Zd b 5) g).setCell (Zd b 6) i) b [a,c,d,e,f,g,i]:=
 ((((((h.set 0 a).set 1 c).set 2 d).set 3 e).set 4 f).set 5 g).set 6 i
theorem Wj(w:Zh)(R:Nat)(a c d e f g h:Value):Tn [R] w (((((((w.setCell (Zd R 0) a).setCell (Zd R 1) c).setCell (Zd R 2) d).setCell (Zd R 3) e).setCell (Zd R 4) f).setCell (Zd R 5) g).setCell (Zd R 6) h):=
 ((((((AS _ _ _ _).trans (AS _ _ _ _)).trans (AS _ _ _ _)).trans (AS _ _ _ _)).trans (AS _ _ _ _)).trans (AS _ _ _ _)).trans (AS _ _ _ _)
theorem JR(wd:Int)(a:Zk)(cap:Nat)(f:Zl)(w:Zh)(V:Ab w w.heap.size a f)(hl:f.length<=1048576)(hs:∀s∈f,s.size<=1048576):
 Calls prog 68 #[Zg wd,.slice a f.length cap] w (WS wd f w):=by
 obtain⟨W,hW⟩:=Af (w.alloc (.cells Yc 115));have bW:=(AL hW).1;have zW:=(AL hW).2.1;have xW:=(AL hW).2.2;have HW:=Yw hW;have d:=FL wd W;obtain⟨⟨F,q0⟩,⟨G,q1⟩,⟨H,q2⟩,⟨I,q3⟩,⟨J,q4⟩,⟨K,q5⟩,⟨L,q6⟩,⟨M,q7⟩,⟨N,q8⟩,⟨O,q9⟩,⟨o,zG⟩,t,zH⟩:=Bw xW;clear hW;by_cases hwd:1<=wd/\wd<=8
 .rw[decide_eq_true hwd]at d;by_cases hlen:f.length<=4000
  .have yR:decide ((4000:Int)<f.length)=false:=Yt
   obtain⟨A,hA⟩:=Af (W.alloc (.cells #[Zg wd,Ze,Ze,Ze,Zb,Zb,Zb] 27));have bA:=(AL hA).1;have zA:A.heap.size=w.heap.size+2:=by rw[hA];simp;omega
   have sA:Aa A (w.heap.size+1) [Zg wd,Ze,Ze,Ze,Zb,Zb,Zb]:=by rw[hA,<-zW];exact Aa.new W _ _
   have xA:=Aa.below (v:=Ze) xW bA;have yQ:=bW.trans (bA.mono bW.size);have Q:CT A (w.heap.size+2) w.heap.size none none none 0 0 [] [] []:=⟨.inr rfl,fun i z hz=>by simp at hz,Yv,⟨rfl,.inl ⟨rfl,rfl⟩⟩,⟨rfl,.inl ⟨rfl,rfl⟩⟩,Yv,by simp[Value.ownBlock],fun q hq=>by simp[Value.ownBlock]at hq,fun z hz=>by simp at hz,.inl rfl,fun z hz=>by simp at hz⟩;have u:=Yw d;have HA:=Yw hA
   have H0:=Yw (Zn sA (Zn xA (Zn Q yQ)));have zN:Hid (Ab w w.heap.size a f):=V;clear d hA sA xA Q bA V;go_enter func68,ntmps68;go_wp2_with fail;rw[<-HW.o];refine u.Am ?_;rintro e w1 ⟨rfl,j⟩;replace j:=j.symm;subst j;clear u;go_upto_region 4 with fail;rw[<-HA.o];clear HA F G H I J K L M N O o t q0 q1 q2 q3 q4 q5 q6 q7 q8 q9 zG zH;go_wp2
   go_loopw [6] (fun i wr=>∃(k:Nat) (r:Rs) (b:Nat) (ta pa la:Zk) (tc pc lc:Nat) (zs:List (Kd×Value)),k<=f.length/\i=Zg k/\Hid (Aa wr (w.heap.size+1) (Yh wd r.E r.G r.C ta zs.length tc pa r.ps.length pc la r.ls.length lc)/\Aa wr w.heap.size z12/\CT wr (w.heap.size+2) b ta pa la pc lc zs r.ps r.ls/\zs.map (·.1)=r.ks/\Cx wd r0 (f.take k) r/\Zz w wr)) (fun i _=>f.length -(intOf i).toNat)
   case atStart=>exact⟨0,r0,w.heap.size,none,none,none,0,0,0,[],Nat.zero_le _,rfl,⟨H0.o.1,H0.o.2.1,H0.o.2.2.1,rfl,rfl,H0.o.2.2.2⟩⟩
   case round=>
    clear H0;obtain⟨k,r,b,ta,pa,la,tc,pc,lc,zs,hk,rfl,d⟩:=hrel;obtain⟨yC,yD,Q,l,g,m⟩:=d.o;by_cases hlt:k<f.length
    .obtain⟨rb,xC,ha,xF,yA⟩:=((zN.o.below m).mono m.size).at hlt;subst ha;have HG:=Yw (Zv hlt);have yS:=hs _ (List.getElem_mem hlt);have c0:=yA k _ HG.o;have yO:=Yw (Zu hlt);clear yA;generalize f[k]=s at *
     have HR:=Yw (Qx s wd wr yS);clear yC yD Q l g m;go_wp2_with fail;refine HR.Am ?_;rintro e w2 ⟨v,rfl,zY,zV⟩;obtain⟨ra,rc,rfl⟩:=As zY;obtain⟨w3,zF⟩:=Af (w2.alloc (.cells (Yd ((Bl s wd).k) ((Bl s wd).sum) ((Bl s wd).name) ((Bl s wd).n) ((Bl s wd).t) ra ((Bl s wd).ss.length) rc) 118));have zU:=(AL zF).1;have b3:=zV.trans (zU.mono zV.size);have e3:=(AL zF).2.2
     have s3:=Aa.below d.o.1 b3;have x3:=Aa.below (v:=Ze) d.o.2.1 b3;have zB:=d.o.2.2.1.below b3;have P:=Yw (d.o.2.2.2.2.2.trans (b3.mono d.o.2.2.2.2.2.size));have zE:=Uf (Al zY zU);have zI:=Yw zF;have xE:(k:Int)<=4000:=Yv
     clear zF HR;cases hok:(Bl s wd).ok with
     |false=>
      obtain⟨⟨F,q0⟩,⟨G,q1⟩,⟨H,q2⟩,⟨I,q3⟩,⟨J,q4⟩,⟨K,q5⟩,⟨L,q6⟩,⟨M,q7⟩,⟨N,q8⟩,⟨O,q9⟩,⟨o,zG⟩,t,zH⟩:=Bw x3;clear e3 s3 zB zE c0 x3;go_upto_region 8 with fail;rw[<-zI.o];go_wp2;refine bodyPost_ret (v:=.agg #[Zg 7,Ze,Ze,Ze,Ze,Zb,Zb,Zb,Zc,Zg ((k:Int)+1),Zc,Zc]) (by simp[results,results68,go_sem,F,G,H,I,J,K,L,M,N,O,o,t]) rfl ?_
      exact⟨⟨7,0,0,0,0,((k+1:Nat):Int),⟨#[]⟩,⟨#[]⟩,⟨#[]⟩,[],[],[]⟩,_,_,_,[],.inr ⟨⟨hwd,hlen⟩,.inl ⟨k+1,⟨k,r,s,rfl,HG.o,d.o.2.2.2.2.1,.inl hok⟩,rfl⟩⟩,rfl,QL _ _,P.o.trans ((Bv w3 w.heap.size _ _ _ _ _ _ _ _ _ _ _ _).below P.o.size Yu)⟩
     |true=>
      have zZ:=(GK hok).1;have y:=d.o.2.2.2.2.1.ok (Fs hwd.1 hwd.2);have l:=d.o.2.2.2.1;have U:IA wd r.E r.G r.C (zs.map (·.1)) r.ps r.ls (Bl s wd).k (Bl s wd).n (Bl s wd).t (Bl s wd).ss:=by rw[l];exact Gr.jh y zZ (by have:=TL zZ;unfold maxLen;omega)
      have zR:=Yw (JQ (w.heap.size+2) wd r.E r.G r.C b ta pa la tc pc lc zs r.ps r.ls (Bl s wd).sum (Bl s wd).name (Bl s wd).t (Bl s wd).n (Bl s wd).ss ra rc w3 (Bl s wd).k zB U (by rw[l];exact y.di) zE.1 zE.2);obtain⟨v0,v1,v2,v3,v4,v5,v6⟩:=Aa.c7 s3 0 1 2 3 4 5 6;obtain⟨u0,u1,u2,u3,u4,u5⟩:=Aa.c6 e3 0 1 2 3 4 5;have yN:=Yw s3;have yP:=Yw x3;have zT:=Yw zB;clear e3 s3 zB zE c0 x3 U
      go_upto_region 8 with fail;rw[<-zI.o];clear zI;go_wp2_with fail;refine zR.Am ?_;rintro e w4 ⟨ht,hQ⟩;have zP:∀q∈(Value.slice la r.ls.length lc).ownBlock.toList,w.heap.size+2<=q:=fun q hq=>(Ac zT.o.y (by simpa using hq)).1;have zJ:=ht.below zT.o.lb zP;have R:=Aa.same yP.o (zJ.block _ Yv);have s4:=Aa.same yN.o (zJ.block _ Yv)
      have Y:=Yw (P.o.trans (zJ.mono Yv));clear v0 v1 v2 v3 v4 v5 v6 u0 u1 u2 u3 u4 u5 zR ht;rcases hQ with⟨c,a',b',zC,rfl⟩|⟨C,b1,yI,yJ,yK,yG,yH,yE,yF,hy,rfl,hm,hC⟩
      .rw[l]at zC;have xD:(c !=0)=true:=by have:=zC.code;simp;omega
       have yL:=Yw zC;have yB:(BY c a' b').toArray= #[Zg c,Ze,Ze,Ze,Ze,Zb,Zb,Zb,Zc,Ze,.string a',.string b']:=rfl;rw[yB];obtain⟨w5,n⟩:=Af (w4.alloc (.cells #[Zg c,Ze,Ze,Ze,Ze,Zb,Zb,Zb,Zc,Ze,.string a',.string b'] 115));have D:=(AL n).1;have n5:=(AL n).2.2;have S:=Yw (Y.o.trans (D.mono Y.o.size))
       obtain⟨⟨F,q0⟩,⟨G,q1⟩,⟨H,q2⟩,⟨I,q3⟩,⟨J,q4⟩,⟨K,q5⟩,⟨L,q6⟩,⟨M,q7⟩,⟨N,q8⟩,⟨O,q9⟩,⟨o,zG⟩,t,zH⟩:=Bw (Aa.below (v:=Ze) R D);obtain⟨m0,_⟩:=n5 0 _ rfl;have Z:=Yw n;clear n zC n5 R s4 yB;go_upto_region 11 with fail;rw[<-Z.o];go_wp2;refine bodyPost_ret (v:=.agg #[Zg 7,Ze,Ze,Ze,Ze,Zb,Zb,Zb,Zc,Zg ((k:Int)+1),Zc,Zc]) (by simp[results,results68,go_sem,F,G,H,I,J,K,L,M,N,O,o,t]) rfl ?_
       exact⟨⟨7,0,0,0,0,((k+1:Nat):Int),⟨#[]⟩,⟨#[]⟩,⟨#[]⟩,[],[],[]⟩,_,_,_,[],.inr ⟨⟨hwd,hlen⟩,.inl ⟨k+1,⟨k,r,s,rfl,HG.o,d.o.2.2.2.2.1,.inr ⟨c,a',b',yL.o⟩⟩,rfl⟩⟩,rfl,QL _ _,S.o.trans ((Bv w5 w.heap.size _ _ _ _ _ _ _ _ _ _ _ _).below S.o.size Yu)⟩
      .rw[l]at hy;obtain⟨w5,n⟩:=Af (w4.alloc (.cells #[Ze,Zg wd,Zg C.E,Zg C.G,Zg C.C,.slice yI C.ks.length yJ,.slice yG C.ps.length yH,.slice yE C.ls.length yF,.string C.sm,Zg C.le,Zc,Zc] 115));have D:=(AL n).1;have n5:=(AL n).2.2;have E:=Aa.below s4 D;have x5:=Aa.below (v:=Ze) R D;have zK:=hC.below D;have zS:=Yw (Y.o.trans (D.mono Y.o.size))
       have zX:C.ks.length=yK.length:=by rw[<-hm,List.length_map]
       have H5:=Yw (Zn E (Zn x5 (Zn zK (Zn hm (Zn hy zX)))));obtain⟨⟨v0,p0⟩,⟨v1,p1⟩,⟨v2,p2⟩,⟨v3,p3⟩,⟨v4,p4⟩,⟨v5,p5⟩,v6,p6⟩:=(⟨E 0 _ rfl,E 1 _ rfl,E 2 _ rfl,E 3 _ rfl,E 4 _ rfl,E 5 _ rfl,E 6 _ rfl⟩:(_/\_)/\(_/\_)/\(_/\_)/\(_/\_)/\(_/\_)/\(_/\_)/\_/\_);obtain⟨m0,m1,m2,m3,m4,m5,m6⟩:=Aa.c7 n5 0 1 2 3 4 5 6;obtain⟨m7,_⟩:=n5 7 _ rfl;have Z:=Yw n;have zO:Hid (Cx wd r0 (f.take (k+1)) C):=by show Cx _ _ _ _;rw[yO.o];exact d.o.2.2.2.2.1.snoc ⟨hok,hy⟩
       have xB:=zK.lb;clear n hy n5 R s4 E x5 hC zK zX hm;go_upto_region 11 with fail;rw[<-Z.o];clear Z;go_wp2
       refine⟨⟨k+1,C,b1,yI,yG,yE,yJ,yH,yF,yK,Yv,Yn,⟨?_,Aa.same H5.o.2.1 ((Wj w5 (w.heap.size+1) _ _ _ _ _ _ _).block _ Yv Yu),H5.o.2.2.1.low (Wj w5 (w.heap.size+1) _ _ _ _ _ _ _) Yu,H5.o.2.2.2.1,zO.o,zS.o.trans ((Wj w5 (w.heap.size+1) _ _ _ _ _ _ _).below zS.o.size Yu)⟩⟩,Ys⟩;rw[<-H5.o.2.2.2.2.2];exact WG H5.o.1 _ _ _ _ _ _ _
    .obtain rfl:k=f.length:=Yv
     have g:=d.o.2.2.2.2.1;rw[Zt (Zx)]at g;have y:=g.ok (Fs hwd.1 hwd.2);have l:=d.o.2.2.2.1;have x:=d.o.2.2.1;have h1:=Ie wd r.E r.G r.C ta pa la tc pc lc (zs.map (·.1)) r.ps r.ls wr ⟨x.cu,x.fp,x.fs⟩ (fun B hB=>by
      rcases x.tb with e|e
      .rw[e]at hB;cases hB;exact x.z.some
      .rw[e];intro i k hk;simp at hk) (Dy x.po) (Dy x.y) (by rw[l];exact y.bt.len) y.np y.nl (by rw[l];exact y.di)
     rw[List.length_map,l]at h1;have HC:=Yw h1;have yM:=Yw g;obtain⟨v0,v1,v2,v3,v4,v5,v6⟩:=Aa.c7 d.o.1 0 1 2 3 4 5 6;clear h1 g y l x yC yD Q m;go_wp2_with fail;refine HC.Am ?_;rintro e w4 ⟨T,P',L',rs,rfl,hS,_,zM⟩;obtain⟨yY,yZ,rfl⟩:=As hS.aj;obtain⟨yW,yX,rfl⟩:=As hS.pins;obtain⟨yU,yV,rfl⟩:=As hS.aq;have R:=Aa.below (v:=Ze) d.o.2.1 zM;have yT:=d.o.2.1.lt;have HF:=Yw (Zn hS zM)
     obtain⟨⟨F,q0⟩,⟨G,q1⟩,⟨H,q2⟩,⟨I,q3⟩,⟨J,q4⟩,⟨K,q5⟩,⟨L,q6⟩,⟨M,q7⟩,⟨N,q8⟩,⟨O,q9⟩,⟨o,zG⟩,t,zH⟩:=Bw R;clear hS zM HC R v0 v1 v2 v3 v4 v5 v6;go_wp2;refine bodyPost_ret (v:=.agg #[Ze,Zg wd,Zg r.E,Zg r.G,Zg r.C,.slice yY r.ks.length yZ,.slice yW r.ps.length yX,.slice yU r.ls.length yV,Zc,Ze,Zc,Zc]) (by simp[results,results68,go_sem,F,G,H,I,J,K,L,M,N,O,o,t]) rfl ?_;have m:=d.o.2.2.2.2.2
     refine⟨⟨0,wd,r.E,r.G,r.C,0,⟨#[]⟩,⟨#[]⟩,⟨#[]⟩,r.ks,r.ps,r.ls⟩,_,_,_,rs,.inr ⟨⟨hwd,hlen⟩,.inr ⟨r,yM.o,rfl⟩⟩,rfl,(HF.o.1.J (Bv w4 w.heap.size _ _ _ _ _ _ _ _ _ _ _ _) (by simp;exact yT)).mono m.size,?_⟩;exact(m.trans (HF.o.2.mono m.size)).trans ((Bv w4 w.heap.size _ _ _ _ _ _ _ _ _ _ _ _).below (Zm m.size HF.o.2.size) Yu)
  .have yR:decide ((4000:Int)<f.length)=true:=Yt
   have u:=Yw d;clear d;go_enter func68,ntmps68;go_wp2_with fail;rw[<-HW.o];refine u.Am ?_;rintro e w1 ⟨rfl,j⟩;replace j:=j.symm;subst j;clear u;go_wp2;refine bodyPost_ret (v:=.agg (Yb 1)) (by simp[results,results68,go_sem,F,G,H,I,J,K,L,M,N,O,o,t]) rfl ?_
   exact⟨⟨1,0,0,0,0,0,⟨#[]⟩,⟨#[]⟩,⟨#[]⟩,[],[],[]⟩,_,_,_,[],.inl ⟨fun h=>hlen h.2,rfl⟩,rfl,QL _ _,bW.trans ((Bv W w.heap.size _ _ _ _ _ _ _ _ _ _ _ _).below bW.size Yu)⟩
 .rw[decide_eq_false hwd]at d;have u:=Yw d;clear d;go_enter func68,ntmps68;go_wp2_with fail;rw[<-HW.o];refine u.Am ?_;rintro e w1 ⟨rfl,j⟩;replace j:=j.symm;subst j;clear u;go_wp2;refine bodyPost_ret (v:=.agg (Yb 1)) (by simp[results,results68,go_sem,F,G,H,I,J,K,L,M,N,O,o,t]) rfl ?_
  exact⟨⟨1,0,0,0,0,0,⟨#[]⟩,⟨#[]⟩,⟨#[]⟩,[],[],[]⟩,_,_,_,[],.inl ⟨fun h=>hwd h.1,rfl⟩,rfl,QL _ _,bW.trans ((Bv W w.heap.size _ _ _ _ _ _ _ _ _ _ _ _).below bW.size Yu)⟩
theorem Vx{j:Nat}{s:Zi}(h:z12[j]?=some (.string s)):s=⟨#[]⟩:=by have:=Zs h;simpa [z12]using this
theorem Ot{a:Nat×Nat}(h:w.heap[o]?=some (.cells z12.toArray t a))(j:Nat):w.cell? (Zd o j)=z12[j]?:=by simp[World.cell?,h]
theorem Bg.gz{A:Nat×Nat}{zs:List (Kd×Value)}(h:Bg w b 0 zs)(l:w.heap[o]?=Option.some (.cells z12.toArray t A))(v:∀z∈zs,∀s∈z.1.B,s≠⟨#[]⟩)(E:Tn [o] w w')(u:b<w.heap.size):Bg w' b 0 zs:=by
 cases hzs:zs with
 |nil=>intro i z a;simp at a
 |cons z0 zs0=>
  rw[<-hzs];have B:b≠o:=by rintro rfl;obtain⟨⟨g,_⟩,_⟩:=h 0 z0 (by rw[hzs];rfl);rw[Nat.zero_mul,Nat.add_zero,Ot l]at g;simp[z12]at g
  refine h.J E u (by simpa using B) (fun z a H n rc e m c=> ?_);obtain⟨i,D⟩:=List.getElem?_of_mem a;obtain⟨_,F,G,k,f⟩:=h i z D;rw[e]at k;cases k;rcases f with f|⟨I,x,y,_,C⟩
  .exact m f
  .cases y;simp at c;subst c;obtain⟨r,q,d⟩:∃r q,z.1.B=r::q:=List.exists_cons_of_ne_nil m;have j:=C 0 r (by rw[d];rfl);rw[Ot l]at j;exact v z a r (by rw[d];simp) (Vx j)
theorem CT.gz{zs:List (Kd×Value)}(h:CT w base b ta pa la pc lc zs ps ls)(f:w.heap[o]?=some (.cells z12.toArray 115))(i:∀z∈zs,∀s∈z.1.B,s≠⟨#[]⟩)(e:Tn [o] w w'):CT w' base b ta pa la pc lc zs ps ls:=
 ⟨h.tb,h.z.gz f i e h.bl,Zr h.bl e.size,Aw h.po (fun g d=>e.block g (Ac h.po d).2 (by
  simp only[List.mem_singleton];rintro rfl;obtain⟨c,a⟩:=Dc h.po d;rw[f]at a;simp at a)),Aw h.y (fun g d=>e.block g (Ac h.y d).2 (by
  simp only[List.mem_singleton];rintro rfl;obtain⟨c,a⟩:=Dc h.y d;rw[f]at a;simp at a)),Zm h.lb e.size,h.bL,h.pL,h.zL,h.zb,h.zr⟩
theorem CT.of{h:Zj}{d:List Kd}(a:Bb w base T P L h d ps ls)(r:∀v∈T::P::L::h,∃g n c,v=Yz g n c)(M:base<=w.heap.size):
 ∃b p l tc pc lc zs,T=Yz b zs.length tc/\P=Yz p ps.length pc/\L=Yz l ls.length lc/\zs.map (·.1)=d/\CT w base b (some ⟨b,0,none⟩) (some ⟨p,0,none⟩) (some ⟨l,0,none⟩) pc lc zs ps ls/\base<=l/\l<w.heap.size:=by
 obtain⟨b,D,tc,rfl⟩:=r T Yu;obtain⟨p,E,pc,rfl⟩:=r P Yu;obtain⟨l,F,lc,rfl⟩:=r L Yu;obtain⟨_,_,H⟩:=As a.aj;obtain⟨_,_,I⟩:=As a.pins;obtain⟨_,_,J⟩:=As a.aq;cases H;cases I;cases J;have hlen:(d.zip h).length=d.length:=by rw[List.length_zip,a.len];omega
 have t:(d.zip h).map (·.1)=d:=List.map_fst_zip (by rw[a.len];exact Zx);have m:=a.nd;rw[EJ]at m;unfold BS at m;obtain⟨D,E,F⟩:=Oq m (l:=l) rfl;have y:=a.aj;rw[<-hlen]at y;have o:∀z∈d.zip h,∃i,d[i]?=some z.1/\h[i]?=some z.2:=fun z f=>by obtain⟨i,B⟩:=List.getElem?_of_mem f;rw[List.getElem?_zip_eq_some]at B;exact⟨i,B.1,B.2⟩
 refine⟨b,p,l,tc,pc,lc,d.zip h,by rw[hlen],rfl,rfl,t,⟨.inl rfl,?_,(Ac a.aj rfl).2,a.pins,a.aq,M,?_,?_,?_,.inr (Ac a.aj rfl).1,?_⟩,Ac a.aq rfl⟩
 .refine Bg.own y (fun z f=> ?_);obtain⟨i,q,j⟩:=o z f;have k:=a.B i z.1 z.2 q j;obtain⟨K,R,G,A⟩:=r z.2 (by simp;exact .inr (.inr (.inr (Zs j))));obtain⟨Q,O,u⟩:=As k;rw[A]at u;cases u;rw[A]at k;exact⟨⟨K,0,none⟩,G,A,Ab.own k⟩
 .intro e;simp[Value.ownBlock]at e;exact D (by simp[Value.ownBlock,e])
 .intro g N e;simp[Value.ownBlock]at N e;exact E (by simp[Value.ownBlock];omega)
 .intro z f C n rc e _ x;simp[Value.ownBlock]at x;obtain⟨i,q,j⟩:=o z f;refine F (List.mem_filterMap.2 ⟨z.2,Zs j,?_⟩);rw[e];simp[Value.ownBlock,x]
 .intro z f C n rc e _;obtain⟨i,q,j⟩:=o z f;have k:=a.B i z.1 z.2 q j;rw[e]at k;exact(Ac k (g:=C.block) (by simp[Value.ownBlock])).1
structure SH (w wx:Zh) (v:Vd) (a:Va) (b:Nat) (o:An) (ta pa la:Zk) (tc pc lc:Nat):Prop where
 box:Aa wx b [Zg o.code,Zg o.wd,Zg o.E,Zg o.G,Zg o.C,.slice ta o.ks.length tc,.slice pa o.ps.length pc,.slice la o.ls.length lc,.string o.sm,Zg o.le,.string o.a,.string o.b]
 rows:AW wx wx.heap.size ta pa la o.ks o.ps o.ls
 rto:PD v.wd (v.ss++v.A) o
 ij:Aa wx w.heap.size [Zg v.wd,Zg v.lim,.slice a.g v.ss.length a.sc,.slice a.X v.A.length a.Z,Zg v.P,Zg v.E,Zg v.G,Zg v.C,.slice a.U v.ks.length a.W,.slice a.N v.ps.length a.T,.slice a.K v.ls.length a.Q,Zg v.H,.slice a.i v.D.length a.qc,.slice a.j v.ms.length a.mc,Zg v.O,Zg v.M,Zg v.ro]
 bx:Below w.heap.size w wx
theorem SH.fin{c d:Zh}{o:An}(h:PD v.wd (v.ss++v.A) o)(i:∀X,Tn [b] d X->AW X X.heap.size ta pa la o.ks o.ps o.ls)(f:Zz w c)(e:Zz c d)(l:Aa c w.heap.size (Xn v a))(n:w.heap.size<c.heap.size)(m:Aa d b z12)(r:c.heap.size<=b):
 SH w ((((((((((((d.setCell (Zd b 0) (Zg o.code)).setCell (Zd b 1) (Zg o.wd)).setCell (Zd b 2) (Zg o.E)).setCell (Zd b 3) (Zg o.G)).setCell (Zd b 4) (Zg o.C)).setCell (Zd b 5) (.slice ta o.ks.length tc)).setCell (Zd b 6) (.slice pa o.ps.length pc)).setCell (Zd b 7) (.slice la o.ls.length lc)).setCell (Zd b 8) (.string o.sm)).setCell (Zd b 9) (Zg o.le)).setCell (Zd b 10) (.string o.a)).setCell (Zd b 11) (.string o.b)) v a b o ta pa la tc pc lc:=by
 have g:=Bv d b (Zg o.code) (Zg o.wd) (Zg o.E) (Zg o.G) (Zg o.C) (.slice ta o.ks.length tc) (.slice pa o.ps.length pc) (.slice la o.ls.length lc) (.string o.sm) (Zg o.le) (.string o.a) (.string o.b);have q:=e.size;refine⟨Uw m _ _ _ _ _ _ _ _ _ _ _ _,?_,h,?_,?_⟩
 .exact i _ g
 .exact Aa.same (Aa.below l e) (g.block _ Yv Yt)
 .exact(f.trans (e.mono f.size)).trans (g.below (by have:=f.size;omega) (fun j k=>by simp at k;have:=f.size;omega))
theorem DV(v:Vd)(a:Va)(w:Zh)(hr:CO w w.heap.size a v)(hc:TQ a v)(m:Gu v):
 Calls prog 100 #[.agg (Xq v a)] w fun e w'=>Ao (Cl v) w w' e:=by
 obtain⟨W,hW⟩:=Af (w.alloc (.cells (Xq v a) 69));have H:=(AL hW).1;have zW:=(AL hW).2.1;have xW:=(AL hW).2.2;have HX:Hid (Aa W _ _):=(AL hW).2.2;have HR:=Yw hr;have HW:=Yw hW;have O:=Yw (FL v.wd W);have zC:=Yw (Cc v.lim 0 1000000 W);have zI:=Yw (DL a.g a.X a.sc a.Z v.ss v.A W w.heap.size H.size (hr.s.below H) (hr.t.below H) m.s m.t m.ss m.A)
 obtain⟨I,J,K,M,y4,y5,y6,y7,y8,y9,A,B,C,D,E,F,G⟩:=Oa xW;clear hW xW hr;by_cases hwd:1<=v.wd/\v.wd<=8
 .rw[decide_eq_true hwd]at O;by_cases hlim:0<=v.lim/\v.lim<=1000000
  .rw[decide_eq_true hlim]at zC;cases hlog:Dg v.ss v.A with
   |true=>
    rw[hlog]at zI;have yH:=Eb hlog;obtain⟨Z,zK⟩:=Af (v.ss++v.A);have HA:Hid (∀X,Zz W X->Calls prog 69 #[.agg #[.slice a.g v.ss.length a.sc,.slice a.X v.A.length a.Z]] X fun e w'=>∃g cap,e=.returned (Yz g Z.length cap)/\w'.ownsRow X.heap.size 9 1 (Yz g Z.length cap) Z.length (Z.map Value.string)/\Zz X w'):=fun X hX=>by have hb:=H.trans (hX.mono H.size);rw[zK];exact Mg a.g a.X a.sc a.Z v.ss v.A X (HR.o.s.L hb) (HR.o.t.L hb) hc.s hc.t m.s m.t
    have HS:Hid (∀(X:Zh) (g cap:Nat),Ab X X.heap.size (some ⟨g,0,none⟩) Z->Calls prog 68 #[Zg v.wd,Yz g Z.length cap] X fun e w'=>∃(o:An) (ta:Zk) (tc:Nat) (pa:Zk) (pc:Nat) (la:Zk) (lc:Nat) (rs:Zj),e=.returned (.agg #[Zg o.code,Zg o.wd,Zg o.E,Zg o.G,Zg o.C,.slice ta o.ks.length tc,.slice pa o.ps.length pc,.slice la o.ls.length lc,.string o.sm,Zg o.le,.string o.a,.string o.b])/\PD v.wd Z o/\Bb w' X.heap.size (.slice ta o.ks.length tc) (.slice pa o.ps.length pc) (.slice la o.ls.length lc) rs o.ks o.ps o.ls/\Zz X w'):=fun X g cap h=>by
     refine(JR v.wd _ _ Z X h (by rw[zK];omega) (fun s hs=>by rw[zK]at hs;rcases List.mem_append.1 hs with h|h;exact m.ss s h;exact m.A s h)).mono ?_;rintro e w' ⟨o,T,P,L,rs,f,rfl,hS,hb⟩;obtain⟨ta,tc,pa,pc,la,lc,rfl,rfl,rfl,_⟩:=hS.rows;exact⟨o,ta,tc,pa,pc,la,lc,rs,rfl,f,hS,hb⟩
    have zU:=Yw zK;clear zK;have HM:=Yw hc.m;clear hc;go_enter func100,ntmps100;go_wp2_with fail;rw[<-HW.o];refine O.Am ?_;rintro e w1 ⟨rfl,c⟩;replace c:=c.symm;subst c;go_wp2_with fail;refine zC.Am ?_;rintro e w1 ⟨rfl,c⟩;replace c:=c.symm;subst c;go_wp2_with fail;refine zI.Am ?_;rintro e d ⟨rfl,R⟩;have x2:=Aa.below HX.o R
    have z2:w.heap.size+1<=d.heap.size:=by have:=R.size;omega
    have yA:=Yw R;have zN:=Yw x2;have N:=Yw (H.trans (R.mono H.size));clear I J K M y4 y5 y6 y7 y8 y9 A B C D E F G O zC zI R HW;obtain⟨I,J,K,M,_⟩:=Oa x2;clear x2;go_upto_region 3 with fail;generalize (.agg (Xq v a):Value)=dv0;go_cut [3] (fun u wx=>∃(b:Nat) (o:An) (ta pa la:Zk) (tc pc lc:Nat),u=Yy b/\Hid (SH w wx v a b o ta pa la tc pc lc))
    case first=>
     have Q:Hid (∀X,Zz d X->X.cell? (Zd (w.heap.size) 0)=some (Zg v.wd)/\X.cell? (Zd (w.heap.size) 2)=some (.slice a.g v.ss.length a.sc)/\X.cell? (Zd (w.heap.size) 3)=some (.slice a.X v.A.length a.Z)):=fun X hX=>by obtain⟨u0,u1,u2,u3,_⟩:=Oa (Aa.below zN.o hX);exact⟨u0,u2,u3⟩
     have HL:Hid (∀X,Zz d X->Zz W X):=fun X hX=>yA.o.trans (hX.mono yA.o.size);have D0:Below d.heap.size d d.drew:=Ad.drew;have D1:∀o,Zz d (d.alloc o).drew:=fun o=>(Zy).drew;clear I J K M
     go_region_held3 (fun X=>X.cell? (Zd (w.heap.size) 0)=some (Zg v.wd)/\X.cell? (Zd (w.heap.size) 2)=some (.slice a.g v.ss.length a.sc)/\X.cell? (Zd (w.heap.size) 3)=some (.slice a.X v.A.length a.Z))
      (first
        |with_reducible exact Q.o _ D0
        |with_reducible exact Q.o _ (D1 _)
        |with_reducible exact Q.o _ j
        |with_reducible exact Q.o _ (j.alloc j.size _)
        |with_reducible exact Q.o _ t
        |with_reducible exact Q.o _ (t.alloc t.size _)
        |with_reducible exact Q.o _ (t.trans ((Bv Y _ _ _ _ _ _ _ _ _ _ _ _ _).below t.size (by intro x hx;simp at hx;omega))))
      (first
        |(go_at_call 69;guard_target=~Calls prog 69 _ (World.drew (World.alloc d _)) _;refine Calls.mono (HA.o (d.alloc (.cells Yc 115)).drew (HL.o _ (D1 _))) ?_;rintro e i ⟨g,cap,rfl,zJ,zO⟩;have j:Below d.heap.size d i:=(D1 _).trans (zO.mono Yu);have S:=Ab.own zJ;clear zJ;have zA:Aa i d.heap.size z12:=Aa.below (v:=Ze) (w:=(d.alloc (.cells Yc 115))) (Aa.new d z12 115) (CG zO))
        |(go_at_call 69;guard_target=~Calls prog 69 _ (World.drew d) _;refine Calls.mono (HA.o d.drew (HL.o _ D0)) ?_;rintro e i ⟨g,cap,rfl,zJ,zO⟩;have j:Below d.heap.size d i:=D0.trans zO;have S:=Ab.own zJ;clear zJ;have nA:=j)
        |(go_at_call 68;have zP:=zA;refine Calls.mono (HS.o i g cap S) ?_;rintro e Y ⟨o,ta,tc,pa,pc,la,lc,rs,rfl,f,z,U⟩;have y:=Yw (Zn f z);clear f z S;have t:Below d.heap.size d Y:=j.trans (U.mono j.size);have zX:Aa Y d.heap.size z12:=Aa.below (v:=Ze) zA U;have zZ:d.heap.size<i.heap.size:=Aa.lt (v:=Ze) zA;have zG:d.heap.size<=d.heap.size:=Zx;obtain⟨⟨t0,q0⟩,⟨t1,q1⟩,⟨t2,q2⟩,⟨t3,q3⟩,⟨t4,q4⟩,⟨t5,q5⟩,⟨t6,q6⟩,⟨t7,q7⟩,⟨t8,q8⟩,⟨t9,q9⟩,⟨t10,q10⟩,t11,q11⟩:=Bw zX)
        |(go_at_call 68;guard_target=~Calls prog 68 _ (World.alloc i _) _;refine Calls.mono (HS.o (i.alloc (.cells Yc 115)) g cap (S.L (Zy))) ?_;rintro e Y ⟨o,ta,tc,pa,pc,la,lc,rs,rfl,f,z,U⟩;have y:=Yw (Zn f z);clear f z S;have t:Below d.heap.size d Y:=(j.alloc j.size _).trans (U.mono (by have:=j.size;simp;omega));have zY:Aa Y i.heap.size z12:=Aa.below (v:=Ze) (w:=(i.alloc (.cells Yc 115))) (Aa.new i z12 115) U;have zG:d.heap.size<=i.heap.size:=j.size;obtain⟨⟨t0,q0⟩,⟨t1,q1⟩,⟨t2,q2⟩,⟨t3,q3⟩,⟨t4,q4⟩,⟨t5,q5⟩,⟨t6,q6⟩,⟨t7,q7⟩,⟨t8,q8⟩,⟨t9,q9⟩,⟨t10,q10⟩,t11,q11⟩:=Bw zY)
        |(go_at_call 68;have zP:=nA;refine Calls.mono (HS.o i g cap S) ?_;rintro e Y ⟨o,ta,tc,pa,pc,la,lc,rs,rfl,f,z,U⟩;have y:=Yw (Zn f z);clear f z S;have t:Below d.heap.size d Y:=j.trans (U.mono j.size);have nD:=nA))
     all_goals
      go_wp2_with fail;go_meet
     all_goals first
      |(have zP:=zX
        exact⟨d.heap.size,o,ta,pa,la,tc,pc,lc,rfl,SH.fin (zU.o▸y.o.1) (fun X ht=>Bb.get (y.o.2.J ht (by simp;exact zZ))) N.o t zN.o Yv zX zG⟩)
      |(have zP:=zY
        exact⟨i.heap.size,o,ta,pa,la,tc,pc,lc,rfl,SH.fin (zU.o▸y.o.1) (fun X ht=>Bb.get (y.o.2.J ht Yu)) N.o t zN.o Yv zY zG⟩)
      |(have zP:=nD
        exact⟨Y.heap.size,o,ta,pa,la,tc,pc,lc,rfl,⟨Aa.new Y [Zg o.code,Zg o.wd,Zg o.E,Zg o.G,Zg o.C,.slice ta o.ks.length tc,.slice pa o.ps.length pc,.slice la o.ls.length lc,.string o.sm,Zg o.le,.string o.a,.string o.b] 115,(Bb.get y.o.2).L (Zy),zU.o▸y.o.1,Aa.below (Aa.below zN.o t) (Zy),(N.o.trans (t.mono N.o.size)).alloc (Zm N.o.size t.size) _⟩⟩)
    case rest=>
     clear I J K M HA HS;obtain⟨b,o,ta,pa,la,tc,pc,lc,rfl,V⟩:=hcut;rcases V.o.rto with⟨yI,_⟩|⟨_,⟨n,zE,ho⟩|⟨r,zE,ho⟩⟩
     .exact absurd ⟨hwd,yH⟩ yI
     .have zR:o.code=7:=by rw[ho]
      obtain⟨m0,_⟩:=V.o.box 0 _ rfl;rw[zR]at m0;have zB:=Yw V.o.bx;have zS:Hid (¬Cl v):=fun⟨r,h⟩=>Lg.not hwd.1 hwd.2 zE h.run;clear ho zE V;go_wp2;go_ret;exact Ao.no zS.o zB.o
     .subst ho;have zF:=zE.ok (Fs hwd.1 hwd.2);obtain⟨⟨m0,_⟩,⟨m1,_⟩,⟨m2,_⟩,⟨m3,_⟩,⟨m4,_⟩,⟨m5,_⟩,⟨m6,_⟩,m7,_⟩:=UD V.o.box;obtain⟨I,J,K,M,y4,y5,y6,y7,y8,y9,A,B,C,D,E,F,G⟩:=Oa V.o.ij;have zB:=Yw V.o.bx;have yE:=HR.o.R.ah zB.o
      have yC:=Yw (KT v.wd r.E r.G r.C v.P v.E v.G v.C ta pa la a.U a.N a.K tc pc lc a.W a.T a.Q r.ks v.ks r.ps v.ps r.ls v.ls wc V.o.rows (yE.mono zB.o.size) ⟨by have:=zF.bt.len;omega,by have:=zF.np;omega,by have:=zF.nl;omega⟩ ⟨m.R.k,m.R.p,m.R.l⟩ (fun k hk=>by have:=zF.di k hk;omega) m.R.r);have zT:=Yw V.o.ij;have zM:=Yw zE;have yG:=Yw zF.ak;clear yE zF V;go_wp2_with fail
      refine yC.Am ?_;rintro e w5 ⟨bb,rfl,l,zV⟩;have zH:=Yw (zB.o.trans (zV.mono zB.o.size));have x5:=Aa.below zT.o zV;clear m0 m1 m2 m3 m4 m5 m6 m7 I J K M y4 y5 y6 y7 y8 y9 A B C D E F G yC zV zE;cases bb with
      |false=>
       have zS:Hid (¬Cl v):=fun⟨r',h⟩=>by obtain rfl:=zM.o.ft h.run;have:=l.2 h.same;cases this
       clear l x5 zT;go_wp2;go_ret;exact Ao.no zS.o zH.o
      |true=>
       have q:=Yw (l.1 rfl);obtain⟨I,J,K,M,y4,y5,y6,y7,y8,y9,A,B,C,D,E,F,G⟩:=Oa x5;have yB:=Yw (TD v.P v.E v.G v.C v.H v.O v.M v.ro (.slice a.U v.ks.length a.W) (.slice a.N v.ps.length a.T) (.slice a.K v.ls.length a.Q) a.i a.j a.qc a.mc v.D v.ms w5 (HR.o.q.L zH.o) (HR.o.m.L zH.o) m.r HM.o (by have h1:=q.o.1.2.2.2;have h2:=yG.o;omega));clear l x5 zT;go_wp2_with fail;refine yB.Am ?_
       rintro e w6 ⟨bb,rfl,l,yD⟩;have yF:=Yw (zH.o.trans (yD.mono zH.o.size));have HN:Hid (bb=true↔Cl v):=by have h1:=q.o.1.1;rw[<-h1]at l;refine⟨fun h=>⟨r,hwd,hlim,hlog,zM.o,q.o,l.1 h⟩,fun⟨r',h⟩=>l.2 h.round⟩
       clear I J K M y4 y5 y6 y7 y8 y9 A B C D E F G yB l yD;go_wp2;go_ret;exact⟨bb,rfl,HN.o,yF.o⟩
   |false=>
    rw[hlog]at zI;go_enter func100,ntmps100;go_wp2_with fail;rw[<-HW.o];refine O.Am ?_;rintro e w1 ⟨rfl,c⟩;replace c:=c.symm;subst c;go_wp2_with fail;refine zC.Am ?_;rintro e w1 ⟨rfl,c⟩;replace c:=c.symm;subst c;go_wp2_with fail;refine zI.Am ?_;rintro e d ⟨rfl,R⟩;have N:=Yw (H.trans (R.mono H.size));clear I J K M y4 y5 y6 y7 y8 y9 A B C D E F G;go_wp2;go_ret
    exact Ao.no (fun⟨r,h⟩=>by have:=h.log;rw[hlog]at this;cases this) N.o
  .rw[decide_eq_false hlim]at zC;go_enter func100,ntmps100;go_wp2_with fail;rw[<-HW.o];refine O.Am ?_;rintro e w1 ⟨rfl,c⟩;replace c:=c.symm;subst c;go_wp2_with fail;refine zC.Am ?_;rintro e w1 ⟨rfl,c⟩;replace c:=c.symm;subst c;clear I J K M y4 y5 y6 y7 y8 y9 A B C D E F G;go_wp2;go_ret;exact Ao.no (fun⟨r,h⟩=>hlim h.lim) H
 .rw[decide_eq_false hwd]at O;go_enter func100,ntmps100;go_wp2_with fail;rw[<-HW.o];refine O.Am ?_;rintro e w1 ⟨rfl,c⟩;replace c:=c.symm;subst c;clear I J K M y4 y5 y6 y7 y8 y9 A B C D E F G;go_wp2;go_ret;exact Ao.no (fun⟨r,h⟩=>hwd h.wd) H
def ID(wd:Int)(s:Zi):Zi:=Cw 7 s ⟨#[]⟩ 0 ⟨#[]⟩ [] wd
def AZ(v:Vd)(u:UR):Vd:=⟨v.wd,v.lim,v.ss,v.A++u.S.map (ID v.wd),v.P,v.E,v.G,v.C,u.ks,v.ps,v.ls,u.H,u.D,u.ms,u.O,u.M,u.ro⟩
def IE(c:Int)(vs:Zj)(n:Int)(D:Value):Zj:=Zg c::(vs++[Zg n,D])
def z20(c:Int):Zj:=[Zg c,Ze,Ze,Zb,Zb,Ze,Ze,Ze,Ze,Zb,Zb,Zb,Ze,Zb,Zb,Ze,Ze,Ze,Ze,Zb]
theorem Ug{a:Zj}(h:a.length=17):prog.built 135 [(1,.agg a.toArray)]=some (IE 0 a 0 Zb).toArray:=by
 obtain⟨k,l,m,n,o,q,r,t,u,v,c,d,e,f,g,i,j,rfl⟩:=Hf h
 kernel_rfl
def Fg(v:Vd)(units:Int)(o:Option (UR×Nat)):Prop:=
 (¬(Cl v/\0<=units/\units<=10000)/\o=none)\/∃r,Em v r/\(0<=units/\units<=10000)/\ClTo v.C v.ps v.ls (4000 -(v.ss++v.A).length) units.toNat 0 (Ec v) o
def WO(v:Vd)(o:Option (UR×Nat))(lo:Nat)(w:Zh)(cs:Zj):Prop:=
 match o with
 |none=>cs=z20 1
 |some (u,n)=>∃S U T P L Q M rs D,cs=IE 0 (Bn (AZ v u) S U T P L Q M) n D/\AG w lo S U T P L Q M rs (AZ v u)/\Ah w lo D u.S/\∀g,Aj D=some g->g∉Dw S U T P L Q M rs
structure Ji (w:Zh) (a:Va) (v:Vd):Prop where
 rows:CO w w.heap.size a v
 s:a.g=none->v.ss.length=0/\a.sc=0
 t:a.X=none->v.A.length=0/\a.Z=0
 q:Ev a.i v.D.length a.qc
 m:Ev a.j v.ms.length a.mc
 k:∀A,a.U=some A->KJ w A v.ks
 p:a.N=none->a.T=0
 l:a.K=none->a.Q=0
 ls:v.ss.length<=1048576
 lt:v.A.length<=1048576
 lq:v.D.length<=100000000
 lm:v.ms.length<=100000000
 nk:v.ks.length<=600
 np:v.ps.length<=100
 nl:v.ls.length<=200
 di:∀k∈v.ks,k.B.length<=30
theorem Ji.below(h:Ji w a v)(d:Zz w w'):Ji w' a v:=
 ⟨h.rows.L d,h.s,h.t,h.q,h.m,(fun A e=>by have f:=h.k A e;have c:=h.rows.R.k;rw[e]at c;exact f.ah c d),h.p,h.l,h.ls,h.lt,h.lq,h.lm,h.nk,h.np,h.nl,h.di⟩
theorem EV(v:Vd)(a:Va)(w:Zh)(h:Ji w a v):
 Calls prog 101 #[.agg (Bn v (.slice a.g v.ss.length a.sc) (.slice a.X v.A.length a.Z) (.slice a.U v.ks.length a.W) (.slice a.N v.ps.length a.T) (.slice a.K v.ls.length a.Q) (.slice a.i v.D.length a.qc) (.slice a.j v.ms.length a.mc)).toArray] w fun e w'=>∃(S U T P L Q M:Value) (rs:Zj),e=.returned (.agg (Bn v S U T P L Q M).toArray)/\AG w' w.heap.size S U T P L Q M rs v/\(∀u∈S::U::Q::M::T::P::L::rs,∃g n c,u=Yz g n c)/\Zz w w':=
 Pb v a w (fun X d=>Mb _ _ _ _ v.ss v.A X (h.below d).rows.s (h.below d).rows.t h.s h.t h.ls h.lt) (fun X d=>GI _ _ _ _ _ _ _ _ _ _ v.ks v.ps v.ls X (h.below d).rows.R (h.below d).k h.p h.l h.nk h.np h.nl h.di) (fun X d=>Pa _ _ _ _ _ _ _ _ v.D v.ms X (h.below d).rows.q (h.below d).rows.m h.q h.m h.lq h.lm)
def RB(b:Nat)(ads:List (Zk))(zs:List (Kd×Value))(g:Nat):Prop:=
 g=b\/(∃p,some p∈ads/\p.block=g)\/∃z∈zs,z.1.B≠[]/\∃ad rc,z.2=.slice (some ad) z.1.B.length rc/\ad.block=g
structure RR (w:Zh) (V:List Nat) (a:Va) (b:Nat) (zs:List (Kd×Value)) (v:Vd):Prop where
 U:a.U=some ⟨b,0,none⟩
 zk:zs.map (·.1)=v.ks
 z:Bg w b 0 zs
 s:Ab w w.heap.size a.g v.ss
 p:AM w w.heap.size a.N v.ps
 l:AN w w.heap.size a.K v.ls
 q:Ab w w.heap.size a.i v.D
 m:Ab w w.heap.size a.j v.ms
 cs:a.g=none->v.ss.length=0/\a.sc=0
 cp:a.N=none->a.T=0
 cl:a.K=none->a.Q=0
 cq:Ev a.i v.D.length a.qc
 cm:Ev a.j v.ms.length a.mc
 lt:∀g,RB b [a.g,a.N,a.K,a.i,a.j] zs g->g<w.heap.size
 ap:∀g,RB b [a.g,a.N,a.K,a.i,a.j] zs g->g∉V
theorem Uh{zs:List (Kd×Value)}(h:Bg w b 0 zs){z:Kd×Value}(d:z∈zs):∃a rc,z.2=.slice (some a) z.1.B.length rc/\Ab w w.heap.size (some a) z.1.B:=by obtain⟨i,c⟩:=List.getElem?_of_mem d;exact(h i z c).2
theorem RR.J{U:List Nat}{zs:List (Kd×Value)}(h:RR w V a b zs v)(d:Tn U w w')(m:∀g∈U,g∈V\/w.heap.size<=g):RR w' V a b zs v:=by
 have c:∀g,RB b [a.g,a.N,a.K,a.i,a.j] zs g->g∉U:=fun g i n=>by
  rcases m g n with f|f
  .exact h.ap g i f
  .have:=h.lt g i;omega
 refine⟨h.U,h.zk,JN h.z (d.block b (h.lt b (.inl rfl)) (c b (.inl rfl))) (fun z k=> ?_),h.s.J d (fun p e _=>c _ (.inr (.inl ⟨p,by simp[e],rfl⟩))),h.p.J d (fun p e _=>c _ (.inr (.inl ⟨p,by simp[e],rfl⟩))),h.l.J d (fun p e _=>c _ (.inr (.inl ⟨p,by simp[e],rfl⟩))),h.q.J d (fun p e _=>c _ (.inr (.inl ⟨p,by simp[e],rfl⟩))),h.m.J d (fun p e _=>c _ (.inr (.inl ⟨p,by simp[e],rfl⟩))),h.cs,h.cp,h.cl,h.cq,h.cm,fun g i=>Zr (h.lt g i) d.size,h.ap⟩
 obtain⟨j,rc,f,l⟩:=Uh h.z k;refine⟨j,rc,f,?_⟩;by_cases hr:z.1.B=[]
 .exact .inl hr
 .exact l.J d (fun p e _=>by cases e;exact c _ (.inr (.inr ⟨z,k,hr,j,rc,f,rfl⟩)))
theorem RR.clear{V':List Nat}{zs:List (Kd×Value)}(h:RR w V a b zs v)(e:∀g∈V',g∈V\/w.heap.size<=g):RR w V' a b zs v:=
 ⟨h.U,h.zk,h.z,h.s,h.p,h.l,h.q,h.m,h.cs,h.cp,h.cl,h.cq,h.cm,h.lt,fun g d f=>by
  rcases e g f with c|c
  .exact h.ap g d c
  .have:=h.lt g d;omega⟩
def SI(a:Va)(b tc:Nat)(qa ma:Zk)(qc mc:Nat):Va:=⟨a.g,a.sc,a.X,a.Z,some ⟨b,0,none⟩,tc,a.N,a.T,a.K,a.Q,qa,qc,ma,mc⟩
theorem RR.unit{zs:List (Kd×Value)}{u r:UR}(h:RR w V a b zs (AZ v u))(J:∀g∈V,g<w.heap.size){e:Ending}{R O:Zl}{N:List Kd}{wd now given births Q F D S:Int}{k C B H:Nat}{j:List (Kd×Value)}{n m G:Zk}(c:LV w w' e wd now given births P L N ps ls Q F D S R O b a.i a.j zs r k tc j n m G C B H):RR w' V (SI a k tc n m C B) k j (AZ v (u.and r)):=by
 have f:=h.J (V:=V) (Tn.of (V:=[]) c.low) Yu;have d:∀{x:Zk},CJ b a.i a.j w.heap.size x->∀p,x=some p->RB b [a.g,a.N,a.K,a.i,a.j] zs p.block\/w.heap.size<=p.block:=fun K p e=>by
  rcases K p e with h|⟨q,h,l⟩|⟨q,h,l⟩|h
  .exact .inl (.inl h)
  .exact .inl (.inr (.inl ⟨q,by simp[h],l.symm⟩))
  .exact .inl (.inr (.inl ⟨q,by simp[h],l.symm⟩))
  .exact .inr h
 have hold:∀g,RB k [a.g,a.N,a.K,n,m] j g->(RB b [a.g,a.N,a.K,a.i,a.j] zs g\/w.heap.size<=g)/\g<w'.heap.size:=fun g i=>by
  rcases i with rfl|⟨p,y,rfl⟩|⟨z,M,E,o,rc,I,rfl⟩
  .exact⟨d c.fb ⟨g,0,none⟩ rfl,c.lt⟩
  .simp only[List.mem_cons,List.not_mem_nil,or_false]at y;rcases y with e|e|e|e|e
   .have:RB b [a.g,a.N,a.K,a.i,a.j] zs p.block:=.inr (.inl ⟨p,by simp[<-e],rfl⟩);exact⟨.inl this,f.lt _ this⟩
   .have:RB b [a.g,a.N,a.K,a.i,a.j] zs p.block:=.inr (.inl ⟨p,by simp[<-e],rfl⟩);exact⟨.inl this,f.lt _ this⟩
   .have:RB b [a.g,a.N,a.K,a.i,a.j] zs p.block:=.inr (.inl ⟨p,by simp[<-e],rfl⟩);exact⟨.inl this,f.lt _ this⟩
   .exact⟨d c.fq p e.symm,c.lq p e.symm⟩
   .exact⟨d c.fm p e.symm,c.lm p e.symm⟩
  .have:RB b [a.g,a.N,a.K,a.i,a.j] zs o.block:=.inr (.inr ⟨z,c.sub z M,E,o,rc,I,rfl⟩);exact⟨.inl this,f.lt _ this⟩
 refine⟨rfl,c.zk,c.z,f.s,f.p,f.l,c.q,c.m,h.cs,h.cp,h.cl,c.cq,c.cm,fun g i=>(hold g i).2,fun g i A=> ?_⟩;rcases(hold g i).1 with t|t
 .exact h.ap g t A
 .have:=J g A;omega
theorem RR.jg{zs:List (Kd×Value)}(h:RR w V a b zs v){lo:Nat}(d:Ah w lo (.slice ta v.A.length tc) v.A)(f:v.ss.length<=1048576)(g:v.A.length<=1048576)(i:v.D.length<=100000000)(j:v.ms.length<=100000000)(l:v.ks.length<=600)(m:v.ps.length<=100)(n:v.ls.length<=200)(o:∀k∈v.ks,k.B.length<=30):Ji w {a with X:=ta,Z:=tc} v:=by
 obtain⟨_,_,e,q⟩:=d.row;cases e;have r:AQ w w.heap.size (some ⟨b,0,none⟩) v.ks:=by have:=h.z.cu (h.lt b (.inl rfl));rw[h.zk]at this;exact this
 refine⟨⟨h.s,q,⟨by rw[h.U];exact r,h.p,h.l⟩,h.q,h.m⟩,h.cs,d.cap.2,h.cq,h.cm,fun A e=> ?_,h.cp,h.cl,f,g,i,j,l,m,n,o⟩;have c:a.U=some A:=e;rw[h.U]at c;cases c;rw[<-h.zk];exact KI.cp h.z.some
theorem QZ(v:Vd):AZ v (Ec v)=v:=by cases v;simp[AZ,Ec]
theorem RR.start{S U Q M:Value}{j:Zj}(h:AG w base S U T P L Q M j v)(f:∀u∈S::U::Q::M::T::P::L::j,∃g n c,u=Yz g n c):∃a b zs,S=.slice a.g v.ss.length a.sc/\U=.slice a.X v.A.length a.Z/\T=.slice a.U v.ks.length a.W/\P=.slice a.N v.ps.length a.T/\L=.slice a.K v.ls.length a.Q/\Q=.slice a.i v.D.length a.qc/\M=.slice a.j v.ms.length a.mc/\RR w (Aj U).toList a b zs v:=by
 obtain⟨r,n1,sc,rfl⟩:=f S Yu;obtain⟨K,n2,uc,rfl⟩:=f U Yu;obtain⟨H,n3,qc,rfl⟩:=f Q Yu;obtain⟨F,n4,mc,rfl⟩:=f M Yu;obtain⟨t,n5,tc,rfl⟩:=f T Yu;obtain⟨G,n6,pc,rfl⟩:=f P Yu;obtain⟨E,n7,lc,rfl⟩:=f L Yu;obtain⟨_,_,q,hs⟩:=h.s.row;obtain⟨_,_,O,_⟩:=h.u.row;obtain⟨_,_,R,hq⟩:=h.q.row;obtain⟨_,_,V,hm⟩:=h.m.row;obtain⟨_,_,W⟩:=As h.R.aj;obtain⟨_,_,X⟩:=As h.R.pins
 obtain⟨_,_,Y⟩:=As h.R.aq;cases q;cases O;cases R;cases V;cases W;cases X;cases Y;have N:(v.ks.zip j).length=v.ks.length:=by rw[List.length_zip,h.R.len];omega
 have B:=h.R.aj;rw[<-N]at B;have C:∀z∈v.ks.zip j,z.2∈j/\∃g c,z.2=Yz g z.1.B.length c/\Ab w w.heap.size (some ⟨g,0,none⟩) z.1.B:=fun z o=>by obtain⟨i,hi⟩:=List.getElem?_of_mem o;obtain⟨k,d⟩:=List.getElem?_zip_eq_some.1 hi;have D:=h.R.B i _ _ k d;obtain⟨g,n,c,l⟩:=f z.2 (by simp[Zs d]);refine⟨Zs d,g,c,?_⟩;rw[l]at D |-;obtain⟨_,_,e⟩:=As D;cases e;exact⟨rfl,Ab.own D⟩
 have x:∀g,RB t [some ⟨r,0,none⟩,some ⟨G,0,none⟩,some ⟨E,0,none⟩,some ⟨H,0,none⟩,some ⟨F,0,none⟩] (v.ks.zip j) g->g=r\/g∈BS (Yz t v.ks.length tc) (Yz G v.ps.length pc) (Yz E v.ls.length lc) j\/g=H\/g=F:=fun g l=>by
  unfold BS;simp only[List.mem_append,Option.mem_toList,List.mem_filterMap];rcases l with rfl|⟨p,J,rfl⟩|⟨z,o,_,ad,rc,q,rfl⟩
  .exact .inr (.inl (.inl rfl))
  .simp only[List.mem_cons,List.not_mem_nil,or_false,Option.some.injEq]at J;rcases J with rfl|rfl|rfl|rfl|rfl
   .exact .inl rfl
   .exact .inr (.inl (.inr (.inl rfl)))
   .exact .inr (.inl (.inr (.inr (.inl rfl))))
   .exact .inr (.inr (.inl rfl))
   .exact .inr (.inr (.inr rfl))
  .obtain⟨k,g,c,d,_⟩:=C z o;rw[d]at q;cases q;exact .inr (.inl (.inr (.inr (.inr ⟨z.2,k,by rw[d];rfl⟩))))
 have y:=h.co;have A:=h.nd;unfold Dw at y A
 refine⟨⟨some ⟨r,0,none⟩,sc,some ⟨K,0,none⟩,uc,some ⟨t,0,none⟩,tc,some ⟨G,0,none⟩,pc,some ⟨E,0,none⟩,lc,some ⟨H,0,none⟩,qc,some ⟨F,0,none⟩,mc⟩,t,v.ks.zip j,rfl,rfl,rfl,rfl,rfl,rfl,rfl,⟨rfl,List.map_fst_zip (by rw[h.R.len];exact Zx),Bg.own B (fun z o=> ?_),hs,AM.own h.R.pins,AN.own h.R.aq,hq,hm,(fun e=>by cases e),(fun e=>by cases e),(fun e=>by cases e),h.q.cap,h.m.cap,fun g l=> ?_,fun g l hu=> ?_⟩⟩
 .obtain⟨_,g,c,d,m⟩:=C z o;exact⟨_,c,d,m⟩
 .refine y g ?_;simp only[List.mem_append,Option.mem_toList];rcases x g l with rfl|k|rfl|rfl
  .exact .inl (.inl rfl)
  .exact .inr (.inl k)
  .exact .inr (.inr (.inl rfl))
  .exact .inr (.inr (.inr rfl))
 .have Z:g=K:=by simpa [Aj]using hu
  subst Z;obtain⟨k,_,m⟩:=List.nodup_append.1 A;have I:=(List.nodup_append.1 k).2.2;simp only[List.mem_append,Option.mem_toList]at m I;rcases x g l with e|h5|e|e
  .exact I r rfl g rfl e.symm
  .exact m g (.inr rfl) g (.inl h5) rfl
  .exact m g (.inr rfl) g (.inr (.inl (by rw[e];rfl))) rfl
  .exact m g (.inr rfl) g (.inr (.inr (by rw[e];rfl))) rfl
theorem UG(X:Zh)(lo a j:Nat)(U:Value)(c:Zl)(t:Zi)(h:Ah X lo U c)(o:∀g,Aj U=some g->g≠a)(v:a<X.heap.size)(z:lo<=X.heap.size)(y:c.length<=100000000):
 ∃d f Y,(Builtin.append_ #[29,29] 29 #[U,Yz X.heap.size 1 1]).run prog (X.alloc (.cells #[.string t] 9))=.ok (.slice d (c.length+1) f) Y/\Y.heap[a]?=X.heap[a]? /\Tn (a::(Aj U).toList) X (Y.setCell (Zd a j) (.slice d (c.length+1) f))/\Ah (Y.setCell (Zd a j) (.slice d (c.length+1) f)) lo (.slice d (c.length+1) f) (c++[t])/\∀g,Aj (.slice d (c.length+1) f)=some g->Aj U=some g\/X.heap.size<=g:=by
 have m:Below X.heap.size X (X.alloc (.cells #[.string t] 9)):=Zy;obtain⟨A,Y,u,n,q,r⟩:=Ek (X.alloc (.cells #[.string t] 9)) lo U c (h.below m) ⟨X.heap.size,0,none⟩ 1 t (by simp[go_sem]) y Yt 29;obtain⟨d,f,rfl,_⟩:=n.row;rw[List.length_append,List.length_cons,List.length_nil,Nat.zero_add]at u n r;have l:∀g,Aj (.slice d (c.length+1) f)=some g->Aj U=some g\/X.heap.size<=g:=fun g e=>by
  rcases r with i|i
  .rw[i]at e;exact .inl e
  .rw[i]at e;have:=Option.some.inj e;simp at this;exact .inr Yv
 have x:Y.heap[a]?=X.heap[a]?:=(q.block a Yt (fun e=>o a e.symm rfl)).trans (m.block a v);refine⟨d,f,Y,u,x,((Tn.of (V:=[]) m).mono Yu).trans (((EC q).mono (by simp;exact fun b h=> .inr h)).trans (Tn.set _ _ _ _ Yu)),n.J (AS Y a j _) (fun g e k=> ?_),l⟩;simp at k;subst k;rcases l g e with i|i
 .exact o g i rfl
 .omega
def XF(v:Vd)(units:Int)(w:Zh)(e:Ending)(w':Zh):Prop:=∃o cs,Fg v units o/\e=.returned (.agg cs.toArray)/\WO v o w.heap.size w' cs/\Zz w w'
theorem Lk(a:Aa X (w.heap.size+1) (z20 0)/\Zz w X):X.there (w.heap.size+1) 0 20/\(z20 1).toArray.all (·.oneCell')=true/\Aa (X.setCells (w.heap.size+1) 0 (z20 1)) (w.heap.size+1) (z20 1)/\Zz w (X.setCells (w.heap.size+1) 0 (z20 1)):=
 ⟨a.1.there,by simp[z20,Value.oneCell'],a.1.ar _ rfl,a.2.trans ((AF _ _ _ _).below a.2.size Yu)⟩
end Go.Proofs.YtcfjcdpkpiidkaaGreat
