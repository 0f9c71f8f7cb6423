import Derived.Test.YtoglnpagihdhpaaGreatDoorX26
import Derived.Test.YtoglnpagihdhpaaGreatDoorX08
import Derived.Test.YtoglnpagihdhpaaGreatDoorX28
import Derived.Test.YtoglnpagihdhpaaGreatDoorX11
set_option maxRecDepth 100000
set_option maxHeartbeats 16000000
namespace Go.Proofs.YtoglnpagihdhpaaGreatDoor
open ChangeShapes WideShapes ChangeAt RowKit _root_.Go.Proofs.Tryz
variable{n g base size m q b l pc lc j o d tc b1 b2 b3 b4 b5:Nat}{c:Zj}{a:Va}{w w' X:Zh}{e t:TypeId}{v:Vd}{ps:List Pd}{T P L S U Q M:Value}{ta pa la:Zk}{ls:List Ld}{s nm text:Zi}{wd now given births num:Int}{refs:Zl}{r:Rs}
section
structure CT (w:Zh) (base b:Nat) (ta pa la:Zk) (pc lc:Nat) (zs:List (Kd×Value)) (ps:List Pd) (ls:List Ld):Prop where
 tb:ta=some ⟨b,0,none⟩\/zs=[]
 z:Bi w b 0 zs
 bl:b<w.heap.size
 po:w.ownsRow base 69 2 (.slice pa ps.length pc) ps.length (Ab pC ps)
 lo:w.ownsRow base 71 3 (.slice la ls.length lc) ls.length (Ab lC ls)
 lb:base<=w.heap.size
 bL:some b≠(Value.slice la ls.length lc).ownBlock
 pL:∀g,(Value.slice pa ps.length pc).ownBlock=some g->(Value.slice la ls.length lc).ownBlock≠some g
 zL:∀z∈zs,∀ad n rc,z.2=.slice (some ad) n rc->z.1.B≠[]->some ad.block≠(Value.slice la ls.length lc).ownBlock
 zb:zs=[]\/base<=b
 zr:∀z∈zs,∀ad n rc,z.2=.slice (some ad) n rc->z.1.B≠[]->base<=ad.block
def NJ(base:Nat)(L:Value)(wd now given births:Int)(ks:List Kd)(ps:List Pd)(ls:List Ld)(kd:Int)(s nm:Zi)(num:Int)(text:Zi)(refs:Zl)(w:Zh)(e:Ending)(w':Zh):Prop:=
 Tn L.ownBlock.toList w w'/\(
  (∃c a b,Fh wd now given births ks ps ls kd s nm num text refs c a b/\e=.returned (.agg (BB c a b).toArray))\/
  (∃r b1 ta1 tc1 zs1 pa1 pc1 la1 lc1,CN wd now given births ks ps ls kd s nm num text refs r/\e=.returned (.agg #[Ze,Zg wd,Zg r.E,Zg r.F,Zg r.C,.slice ta1 r.A.length tc1,.slice pa1 r.ps.length pc1,.slice la1 r.ls.length lc1,.string r.y,Zg r.le,Zc,Zc])/\zs1.map (·.1)=r.A/\CT w' base b1 ta1 pa1 la1 pc1 lc1 zs1 r.ps r.ls))
section
variable {w w':Zh} {base b:Nat} {ta pa la:Zk} {pc lc:Nat} {zs:List (Kd×Value)} {ps:List Pd} {ls:List Ld}
theorem CT.below(h:CT w base b ta pa la pc lc zs ps ls)(a:Zz w w'):CT w' base b ta pa la pc lc zs ps ls:=
 ⟨h.tb,h.z.below a h.bl,Zr h.bl a.size,Ag h.po a,Ag h.lo a,Zm h.lb a.size,h.bL,h.pL,h.zL,h.zb,h.zr⟩
theorem CT.dq(h:CT w base b ta pa la pc lc zs ps ls):Bu w w.heap.size ta (zs.map (·.1)):=by
 rcases h.tb with e|e
 .rw[e];exact h.z.dq h.bl
 .rw[e];exact .inl rfl
theorem CT.fy(h:CT w base b ta pa la pc lc zs ps ls):AO w w.heap.size pa ps:=AO.own h.po
theorem CT.gh(h:CT w base b ta pa la pc lc zs ps ls):AM w w.heap.size la ls:=AM.own h.lo
theorem CT.gx(h:CT w base b ta pa la pc lc zs ps ls){c:Nat}{a:List Pd}(d:w.ownsRow n 69 2 (Yz g a.length c) a.length (Ab pC a))(i:base<=n)(f:∀q,(Value.slice la ls.length lc).ownBlock=some q->q<n):CT w base b ta (some ⟨g,0,none⟩) la c lc zs a ls:=
 ⟨h.tb,h.z,h.bl,d.mono i,h.lo,h.lb,h.bL,fun q j e=>by have k:=(Ac d j).1;have l:=f q e;omega,h.zL,h.zb,h.zr⟩
theorem CT.gy(h:CT w base b ta pa la pc lc zs ps ls){c:Nat}{a:List Ld}(f:w.ownsRow n 71 3 (Yz g a.length c) a.length (Ab lC a))(o:base<=n)(v:b<n)(r:∀q,(Value.slice pa ps.length pc).ownBlock=some q->q<n)(u:∀z∈zs,∀d m rc,z.2=.slice (some d) m rc->z.1.B≠[]->d.block<n):CT w base b ta pa (some ⟨g,0,none⟩) pc c zs ps a:=by
 have x:=(Ac f (g:=g) rfl).1;refine⟨h.tb,h.z,h.bl,h.po,f.mono o,h.lb,fun e=> ?_,fun q t e=> ?_,fun z i d m rc j k e=> ?_,h.zb,h.zr⟩
 .have:b=g:=by simpa [Value.ownBlock]using e
  omega
 .have l:g=q:=by simpa [Value.ownBlock]using e
  have:=r q t;omega
 .have l:d.block=g:=by simpa [Value.ownBlock]using e
  have:=u z i d m rc j k;omega
theorem CT.cz(h:CT w base b ta pa la pc lc zs ps ls):(∀q,(Value.slice pa ps.length pc).ownBlock=some q->q<w.heap.size)/\(∀q,(Value.slice la ls.length lc).ownBlock=some q->q<w.heap.size)/\∀z∈zs,∀c m rc,z.2=.slice (some c) m rc->z.1.B≠[]->c.block<w.heap.size:=
 ⟨fun _ a=>(Ac h.po a).2,fun _ a=>(Ac h.lo a).2,fun _ f _ _ _ d e=>h.z.cj f d e⟩
theorem EU{a:Zk}{c:Nat}{i:Zj}(h:w.ownsRow base e size (.slice a m c) n i)(f:a=none):c=0:=by
 rcases h.2 with⟨d,_⟩|⟨g,cap,j,d,_⟩
 .injection d
 .injection d with e1;rw[f]at e1;cases e1
end
theorem DT{v:Value}(h:w.ownsRow base e size v n c)(d:Tn [q] w w')(f:q<base):w'.ownsRow base e size v n c:=
 Ak h (fun g a=>d.block g (Ac h a).2 (by have:=(Ac h a).1;simp;omega))
theorem NK{v:Value}(h:w.ownsRow base e size v n c)(f:Tn [q] w w')(d:∀g,v.ownBlock=some g->g≠q):w'.ownsRow base e size v n c:=
 Ak h (fun g a=>f.block g (Ac h a).2 (by simp;exact d g a))
theorem Cf{a:Zh}(c:Zz w X)(d:Zz X w')(e:Tn [w.heap.size+2] w' a):Below w.heap.size w a:=
 (c.trans (d.mono c.size)).trans (e.below (Zm c.size d.size) (by intro v f;simp at f;omega))
theorem Og(wd now given births f num:Int)(ta pa la ra:Zk)(tc pn pc g lc h rc:Nat)(a:List Kd)(s nm text:Zi)(w:Zh)(k:Bu w w.heap.size ta a)(U:a.length<=1000)(l:¬Au a s):
 Calls prog 47 #[.agg (Yg wd now given births ta a.length tc pa pn pc la g lc),.agg (Xz f s nm num text ra h rc)] w fun e w'=>e=.returned (.agg (BB 2 ⟨#[]⟩ ⟨#[]⟩).toArray)/\Zz w w':=by
 obtain⟨W,c⟩:=Af (((w.alloc (.cells (Yg wd now given births ta a.length tc pa pn pc la g lc) 30)).alloc (.cells (Xz f s nm num text ra h rc) 38)).alloc (.cells Xy 32));have i:=(Bo c).1;have q:=(Bo c).2.2.1;have t:Aa W (w.heap.size+1) (Ya f s nm num text ra h rc):=by have d:=Aa.new (w.alloc (.cells (Yg wd now given births ta a.length tc pa pn pc la g lc) 30)) (Ya f s nm num text ra h rc) 38;rw[World.size_alloc]at d;rw[c];exact Aa.below d (Zy)
 have r:Aa W (w.heap.size+2) z12:=by have d:=Aa.new ((w.alloc (.cells (Yg wd now given births ta a.length tc pa pn pc la g lc) 30)).alloc (.cells (Xz f s nm num text ra h rc) 38)) z12 32;rw[World.size_alloc,World.size_alloc]at d;rw[c];exact d
 have m:=Yw (Ey wd now given births ta tc (.slice pa pn pc) (.slice la g lc) a s W w.heap.size (Bu.below k i) i.size Yv);have T:=IB l;have n:=Yw c;have u:=Yw r;obtain⟨v0,B,C,D,E,F,G,H⟩:=AQ q;obtain⟨A,_⟩:=t 1 _ rfl;clear c q r t k l;go_enter func47,ntmps47;go_upto_region 1 with fail;rw[<-n.o];clear n;go_wp2_with fail;refine m.Ah ?_;rintro e I ⟨rfl,j⟩
 obtain⟨⟨J,Y⟩,⟨K,Z⟩,⟨L,q2⟩,⟨M,q3⟩,⟨N,q4⟩,⟨O,q5⟩,⟨P,q6⟩,⟨Q,q7⟩,⟨R,q8⟩,⟨S,q9⟩,⟨x,V⟩,y,X⟩:=AS (Aa.below (v:=Ze) u.o j);have o:=i.trans (j.mono i.size);generalize CJ a s=fi at *
 clear v0 B C D E F G H m A;go_wp2;refine bodyPost_ret (v:=.agg (BB 2 ⟨#[]⟩ ⟨#[]⟩).toArray) (by simp[results,results47,go_sem,J,K,L,M,N,O,P,Q,R,S,x,y,BB]) rfl ?_;exact⟨rfl,o.trans (Tn.below (Ba I (w.heap.size+2) _ _ _ _ _ _ _ _ _ _ _ _) o.size (by intro v z;simp at z;omega))⟩
theorem QB{n:Zi}(s:Zi)(h:¬∃x∈ps,x.name=n):(Bh ps n s).length=ps.length+1:=by
 have c:∀(l:List Pd),(¬∃x∈l,x.name=n)->(l.filter (fun x=>less x.name n)).length+(l.filter (fun x=> !(less x.name n)&& !decide (x.name=n))).length=l.length:=by
  intro l;induction l with
  |nil=>intro _;rfl
  |cons x l ih=>intro a;have d:x.name≠n:=fun e=>a ⟨x,Yu,e⟩;have:=ih (fun⟨y,hy,e⟩=>a ⟨y,by simp[hy],e⟩);cases a:less x.name n<;>simp[a,d]<;>omega
 have:=c ps h;unfold Bh;rw[List.length_append,List.length_append];simp;omega
def Abu(wd now given births num:Int)(zs:List (Kd×Value))(ps:List Pd)(ls:List Ld)(s:Zi)(X:Zh)(e:Ending)(w':Zh):Prop:=
 Below X.heap.size X w'/\(((ls.length=200\/given=1000000000)/\e=.returned (.agg (BB 4 ⟨#[]⟩ ⟨#[]⟩).toArray))\/
  ((ls.length<200/\given<1000000000)/\∃b1 tc1 zs1 p1 pc1 g c,e=.returned (.agg #[Ze,Zg wd,Zg now,Zg (given+1),Zg births,.slice (some ⟨b1,0,none⟩) zs.length tc1,.slice (some ⟨p1,0,none⟩) ps.length pc1,.slice (some ⟨g,0,none⟩) (ls.length+1) c,Zc,Zg (given+1),Zc,Zc])/\zs1.map (·.1)=zs.map (·.1)/\w'.ownsRow X.heap.size 66 4 (.slice (some ⟨b1,0,none⟩) zs1.length tc1) zs1.length (Ab kC zs1)/\(∀z∈zs1,∃g' c',z.2=.slice (some ⟨g',0,none⟩) z.1.B.length c'/\w'.ownsRow X.heap.size 9 1 z.2 z.1.B.length (z.1.B.map Value.string))/\w'.ownsRow X.heap.size 69 2 (.slice (some ⟨p1,0,none⟩) ps.length pc1) ps.length (Ab pC ps)/\w'.ownsRow X.heap.size 71 3 (.slice (some ⟨g,0,none⟩) (ls.length+1) c) (ls++[(⟨given+1,s,now+num⟩:Ld)]).length (Ab lC (ls++[(⟨given+1,s,now+num⟩:Ld)]))/\b1≠g/\p1≠g/\∀z∈zs1,∀ad n rc,z.2=.slice (some ad) n rc->ad.block≠g))
theorem Bi.some{a:Nat}{zs:List (Kd×Value)}(h:Bi w b a zs):Ev w ⟨b,a,none⟩ (zs.map (·.1)):=by intro i k c;rw[List.getElem?_map]at c;obtain⟨z,g,rfl⟩:=Option.map_eq_some_iff.1 c;obtain⟨⟨_,_,_,e⟩,d,rc,f,_⟩:=h i z g;exact⟨d,rc,by rw[e,f]⟩
theorem PJ{T P L:Option Nat}{R:List Nat}(h:(T.toList++(P.toList++(L.toList++R))).Nodup)(a:L=some l):T≠some l/\P≠some l/\l∉R:=by subst a;cases T<;>cases P<;>simp_all<;>grind
section
variable (base:Nat) (wd now given births:Int) (b:Nat) (ta pa la:Zk) (tc pc lc:Nat) (zs:List (Kd×Value)) (ps:List Pd) (ls:List Ld) (s nm text:Zi) (num:Int) (refs:Zl) (ra:Zk) (rc:Nat) (w:Zh)
theorem VN(h:CT w base b ta pa la pc lc zs ps ls)(m:GC wd now given births (zs.map (·.1)) ps ls 3 num text refs):
 Calls prog 22 #[.agg (Yg wd now given births ta zs.length tc pa ps.length pc la ls.length lc),.agg (Xz 3 s nm num text ra refs.length rc)] w (NJ base (.slice la ls.length lc) wd now given births (zs.map (·.1)) ps ls 3 s nm num text refs w):=by
 refine Dv 3 48 _ wd now given births ta pa la zs.length tc ps.length pc ls.length lc s nm text num ra refs.length rc w [] (fun X e w'=>QX X w' e wd now given births (.slice ta zs.length tc) (.slice la ls.length lc) ps nm) _ (.inr (.inr (.inl ⟨rfl,rfl,rfl⟩))) Yu (fun X a _=>Qu wd now given births ta la pa zs.length tc ls.length lc pc ps nm X (h.below a).fy (by have:=m.np;omega)) ?_ ?_
 .rintro X e w' ⟨d,⟨_,rfl⟩|⟨_,g,c,rfl,_⟩⟩
  .exact⟨Tn.of d,_,_,_,_,_,_,_,_,_,_,_,_,_,_,_,_,_,_,rfl⟩
  .exact⟨Tn.of d,_,_,_,_,_,_,_,_,_,_,_,_,_,_,_,_,_,_,rfl⟩
 .rintro X e w' t a u ⟨d,⟨k,rfl⟩|⟨f,g,c,rfl,o⟩⟩ i
  .exact⟨Tn.of (Cf a d i),.inl ⟨5,_,_,.inr ⟨rfl,rfl,.inr (.inl ⟨rfl,k,rfl⟩)⟩,rfl⟩⟩
  .have j:=Cf a d i;have n:=h.below j;have l:=DT o i Yv;exact⟨Tn.of j,.inr ⟨⟨⟨#[]⟩,0,now,given,births,zs.map (·.1),Bc ps nm,ls⟩,b,ta,tc,zs,_,c,la,lc,.inr (.inr (.inl ⟨rfl,f,rfl⟩)),by rw[List.length_map],rfl,n.gx l (Zm h.lb a.size) (fun q r=>Zr (h.cz.2.1 q r) a.size)⟩⟩
theorem VO(h:CT w base b ta pa la pc lc zs ps ls)(u:GC wd now given births (zs.map (·.1)) ps ls 5 num text refs):
 Calls prog 22 #[.agg (Yg wd now given births ta zs.length tc pa ps.length pc la ls.length lc),.agg (Xz 5 s nm num text ra refs.length rc)] w (NJ base (.slice la ls.length lc) wd now given births (zs.map (·.1)) ps ls 5 s nm num text refs w):=by
 refine Dv 5 51 _ wd now given births ta pa la zs.length tc ps.length pc ls.length lc s nm text num ra refs.length rc w [] (fun X e w'=>Uc X w' e wd now given births (.slice ta zs.length tc) (.slice pa ps.length pc) ls num) _ (.inr (.inr (.inr (.inl ⟨rfl,rfl,rfl⟩)))) Yu (fun X d _=>Ss wd now given births ta pa la zs.length tc ps.length pc lc ls num X (h.below d).gh (by have:=u.nl;omega)) ?_ ?_
 .rintro X e w' ⟨f,⟨_,rfl⟩|⟨_,g,c,rfl,_⟩⟩
  .exact⟨Tn.of f,_,_,_,_,_,_,_,_,_,_,_,_,_,_,_,_,_,_,rfl⟩
  .exact⟨Tn.of f,_,_,_,_,_,_,_,_,_,_,_,_,_,_,_,_,_,_,rfl⟩
 .rintro X e w' A d l ⟨f,⟨m,rfl⟩|⟨i,g,c,rfl,x⟩⟩ j
  .exact⟨Tn.of (Cf d f j),.inl ⟨5,_,_,.inr ⟨rfl,rfl,.inr (.inr (.inr (.inl ⟨rfl,m,rfl⟩)))⟩,rfl⟩⟩
  .have k:=Cf d f j;have v:=h.below k;have o:=DT x j Yv;exact⟨Tn.of k,.inr ⟨⟨⟨#[]⟩,0,now,given,births,zs.map (·.1),ps,Br ls num⟩,b,ta,tc,zs,pa,pc,_,c,.inr (.inr (.inr (.inr (.inl ⟨rfl,i,rfl⟩)))),by rw[List.length_map],rfl,v.gy o (Zm h.lb d.size) (Zr h.bl d.size) (fun q y=>Zr (h.cz.1 q y) d.size) (fun z l a n c r t=>Zr (h.cz.2.2 z l a n c r t) d.size)⟩⟩
theorem VP(h:CT w base b ta pa la pc lc zs ps ls)(f:GC wd now given births (zs.map (·.1)) ps ls 6 num text refs):
 Calls prog 22 #[.agg (Yg wd now given births ta zs.length tc pa ps.length pc la ls.length lc),.agg (Xz 6 s nm num text ra refs.length rc)] w (NJ base (.slice la ls.length lc) wd now given births (zs.map (·.1)) ps ls 6 s nm num text refs w):=by
 refine Dv 6 52 _ wd now given births ta pa la zs.length tc ps.length pc ls.length lc s nm text num ra refs.length rc w [] (fun X e w'=>Ud X w' e wd now given births (.slice ta zs.length tc) (.slice pa ps.length pc) ls num) _ (.inr (.inr (.inr (.inr (.inl ⟨rfl,rfl,rfl⟩))))) Yu (fun X d _=>Su wd now given births ta pa la zs.length tc ps.length pc lc ls num X (h.below d).gh (by have:=f.nl;omega) f.cw f.cn f.ft f.gi) ?_ ?_
 .rintro X e w' ⟨i,⟨_,rfl⟩|⟨_,g,c,rfl,_⟩⟩
  .exact⟨Tn.of i,_,_,_,_,_,_,_,_,_,_,_,_,_,_,_,_,_,_,rfl⟩
  .exact⟨Tn.of i,_,_,_,_,_,_,_,_,_,_,_,_,_,_,_,_,_,_,rfl⟩
 .rintro X e w' A d m ⟨i,⟨o,rfl⟩|⟨j,g,c,rfl,x⟩⟩ k
  .exact⟨Tn.of (Cf d i k),.inl ⟨4,_,_,.inr ⟨rfl,rfl,.inr (.inr (.inr (.inr (.inl ⟨rfl,o,rfl⟩))))⟩,rfl⟩⟩
  .have l:=Cf d i k;have v:=h.below l;have r:=DT x k Yv;exact⟨Tn.of l,.inr ⟨⟨⟨#[]⟩,0,now+num,given,births,zs.map (·.1),ps,AK ls (now+num)⟩,b,ta,tc,zs,pa,pc,_,c,.inr (.inr (.inr (.inr (.inr (.inl ⟨rfl,j,rfl⟩))))),by rw[List.length_map],rfl,v.gy r (Zm h.lb d.size) (Zr h.bl d.size) (fun q y=>Zr (h.cz.1 q y) d.size) (fun z m a n c t u=>Zr (h.cz.2.2 z m a n c t u) d.size)⟩⟩
theorem VQ(h:CT w base b ta pa la pc lc zs ps ls)(j:GC wd now given births (zs.map (·.1)) ps ls 2 num text refs):
 Calls prog 22 #[.agg (Yg wd now given births ta zs.length tc pa ps.length pc la ls.length lc),.agg (Xz 2 s nm num text ra refs.length rc)] w (NJ base (.slice la ls.length lc) wd now given births (zs.map (·.1)) ps ls 2 s nm num text refs w):=by
 have m:(zs.map (·.1)).length<=1000:=by have:=j.bn.len;omega
 by_cases hth:Au (zs.map (·.1)) s
 .refine Dv 2 47 _ wd now given births ta pa la zs.length tc ps.length pc ls.length lc s nm text num ra refs.length rc w [] (fun X e w'=>Wu X w' e wd now given births (.slice ta zs.length tc) (.slice la ls.length lc) ps nm s) _ (.inr (.inl ⟨rfl,rfl,rfl⟩)) Yu (fun X a _=> ?_) ?_ ?_
  .have i:=Uf wd now given births 2 num ta pa la ra tc pc lc ls.length refs.length rc (zs.map (·.1)) ps nm s text X (h.below a).dq (h.below a).fy m (by have:=j.np;omega) hth j.bt;rw[List.length_map]at i;exact i
  .rintro X e w' ⟨d,⟨_,rfl⟩|⟨_,g,c,rfl,_⟩⟩
   .exact⟨Tn.of d,_,_,_,_,_,_,_,_,_,_,_,_,_,_,_,_,_,_,rfl⟩
   .exact⟨Tn.of d,_,_,_,_,_,_,_,_,_,_,_,_,_,_,_,_,_,_,rfl⟩
  .rintro X e w' u a B ⟨d,⟨C,rfl⟩|⟨v,g,c,rfl,z⟩⟩ k
   .have o:=Im ps nm s;have r:¬∃x∈ps,x.name=nm:=fun l=>by have:=o.2 l;have:=j.np;omega
    exact⟨Tn.of (Cf a d k),.inl ⟨4,_,_,.inr ⟨rfl,rfl,.inl ⟨rfl,.inr ⟨hth,r,by have:=o.1;have:=j.np;omega,rfl⟩⟩⟩,rfl⟩⟩
   .have n:=Cf a d k;have y:=h.below n;have t:=DT z k Yv;have f:(∃x∈ps,x.name=nm)\/ps.length<100:=by
     by_cases l:∃x∈ps,x.name=nm
     .exact .inl l
     .have:=QB s l;exact .inr Yv
    exact⟨Tn.of n,.inr ⟨⟨⟨#[]⟩,0,now,given,births,zs.map (·.1),Bh ps nm s,ls⟩,b,ta,tc,zs,_,c,la,lc,.inr (.inl ⟨rfl,hth,f,rfl⟩),by rw[List.length_map],rfl,y.gx t (Zm h.lb a.size) (fun q A=>Zr (h.cz.2.1 q A) a.size)⟩⟩
 .refine Dv 2 47 _ wd now given births ta pa la zs.length tc ps.length pc ls.length lc s nm text num ra refs.length rc w [] (fun X e w'=>e=.returned (.agg (BB 2 ⟨#[]⟩ ⟨#[]⟩).toArray)/\Zz X w') _ (.inr (.inl ⟨rfl,rfl,rfl⟩)) Yu (fun X a _=> ?_) ?_ ?_
  .have i:=Og wd now given births 2 num ta pa la ra tc ps.length pc ls.length lc refs.length rc (zs.map (·.1)) s nm text X (h.below a).dq m hth;rw[List.length_map]at i;exact i
  .rintro X e w' ⟨rfl,d⟩;exact⟨Tn.of d,_,_,_,_,_,_,_,_,_,_,_,_,_,_,_,_,_,_,rfl⟩
  .rintro X e w' u a B ⟨rfl,d⟩ k;exact⟨Tn.of (Cf a d k),.inl ⟨2,_,_,.inr ⟨rfl,rfl,.inl ⟨rfl,.inl ⟨hth,rfl⟩⟩⟩,rfl⟩⟩
theorem VR(h:CT w base b ta pa la pc lc zs ps ls)(j:GC wd now given births (zs.map (·.1)) ps ls 4 num text refs)(zI:∀k∈zs.map (·.1),k.B.length<=30):
 Calls prog 22 #[.agg (Yg wd now given births ta zs.length tc pa ps.length pc la ls.length lc),.agg (Xz 4 s nm num text ra refs.length rc)] w (NJ base (.slice la ls.length lc) wd now given births (zs.map (·.1)) ps ls 4 s nm num text refs w):=by
 have zK:(zs.map (·.1)).length<=600:=j.bn.len;refine Oe wd now given births ta pa la zs.length tc ps.length pc ls.length lc s nm text num ra refs.length rc w (CJ (zs.map (·.1)) s) (Abu wd now given births num zs ps ls s) _ (fun X x=> ?_) (fun h0 X x t=> ?_) ?_ ?_ ?_
 .have Q:=Ey wd now given births ta tc (.slice pa ps.length pc) (.slice la ls.length lc) (zs.map (·.1)) s X X.heap.size (h.below x).dq (Zx) Yv;rw[List.length_map]at Q;exact Q
 .have u:=h.below x;have Q:=IW wd now given births ta pa la tc pc lc (zs.map (·.1)) ps ls X ⟨u.dq,u.fy,u.gh⟩ (fun A hA=>by
   rcases u.tb with e|e
   .rw[e]at hA;cases hA;exact u.z.some
   .rw[e];intro i k hk;simp at hk) (EU u.po) (EU u.lo) zK j.np j.nl zI
  rw[List.length_map]at Q;refine Q.mono ?_;rintro e w' ⟨T,P',L',rs,rfl,d,K,m⟩;obtain⟨E,n1,J,rfl⟩:=K T Yu;obtain⟨M,n2,I,rfl⟩:=K P' Yu;obtain⟨L,n3,zS,rfl⟩:=K L' Yu;obtain⟨_,_,o⟩:=As d.ak;obtain⟨_,_,G⟩:=As d.pins;obtain⟨_,_,P⟩:=As d.aq;cases o;cases G;cases P;refine⟨⟨_,_,_,_,_,_,_,_,_,rfl,fun Y D=> ?_⟩,m⟩
  refine(Il wd now given births (some ⟨E,0,none⟩) (some ⟨M,0,none⟩) (some ⟨L,0,none⟩) _ J ps.length I zS X.heap.size ls s num Y (Ag d.aq D) (Zm m.size D.size) (by have:=j.nl;omega) j.bj j.bh j.cw j.cn j.ft j.gi).mono ?_;rintro e w3 ⟨y,W⟩;have zV:X.heap.size<=L:=(Ac d.aq rfl).1
  have zJ:Below X.heap.size X w3:=(m.trans (D.mono m.size)).trans (y.below (Zm m.size D.size) (by intro v K;simp[Value.ownBlock]at K;omega));refine⟨zJ,?_⟩;rcases W with⟨B,rfl⟩|⟨⟨V,R⟩,g,c,rfl,ho,U⟩
  .exact .inl ⟨by have:=j.nl;have:=j.bh;omega,rfl⟩
  .have Z:=d.nd;rw[FY]at Z;unfold Ci at Z;obtain⟨n1,n2,n3⟩:=PJ Z (l:=L) rfl;have f:∀{e:TypeId} {size:Nat} {v:Value} {n:Nat} {xs:Zj},w'.ownsRow X.heap.size e size v n xs->v.ownBlock≠some L->w3.ownsRow X.heap.size e size v n xs:=fun {e size v n xs} ho1 hne=>Ak (Ag ho1 D) (fun q hq=>y.block q (Ac (Ag ho1 D) hq).2 (fun e=>by simp[Value.ownBlock]at e;exact hne (by rw[hq,e])))
   have hlen:((zs.map (·.1)).zip rs).length=zs.length:=by rw[List.length_zip,d.len,List.length_map];omega
   refine .inr ⟨⟨V,R⟩,E,J,(zs.map (·.1)).zip rs,M,I,g,c,Yu,?_,?_,?_,f d.pins n2,ho,?_,?_,?_⟩
   .rw[List.map_fst_zip (by rw[d.len];exact Zx)]
   .have h2:=f d.ak n1;rw[hlen];rw[List.length_map]at h2;exact h2
   .intro z t;obtain⟨i,r⟩:=List.getElem?_of_mem t;rw[List.getElem?_zip_eq_some]at r;have hr:=d.B i z.1 z.2 r.1 r.2;obtain⟨C,n',O,F⟩:=K z.2 (by simp;exact .inr (.inr (.inr (Zs r.2))));obtain⟨a',zU,zE⟩:=As hr;rw[F]at zE;cases zE;refine⟨C,O,F,f hr (fun e=>n3 ?_)⟩;exact List.mem_filterMap.2 ⟨z.2,Zs r.2,e⟩
   .have q1:=(Ac d.ak (g:=E) rfl).2;have q2:=D.size;rcases U with H|H
    .have o:L=g:=by simpa [Value.ownBlock]using H
     intro e;exact n1 (by simp[Value.ownBlock];omega)
    .omega
   .have q1:=(Ac d.pins (g:=M) rfl).2;have q2:=D.size;rcases U with H|H
    .have o:L=g:=by simpa [Value.ownBlock]using H
     intro e;exact n2 (by simp[Value.ownBlock];omega)
    .omega
   .intro z t a n' O G;obtain⟨i,r⟩:=List.getElem?_of_mem t;rw[List.getElem?_zip_eq_some]at r;have hr:=d.B i z.1 z.2 r.1 r.2;obtain⟨C,m',d',P⟩:=K z.2 (by simp;exact .inr (.inr (.inr (Zs r.2))));rw[P]at G;cases G;have q1:=(Ac hr (g:=C) (by rw[P];rfl)).2;have q2:=D.size;show C≠g;rcases U with H|H
    .have o:L=g:=by simpa [Value.ownBlock]using H
     intro e;exact n3 (List.mem_filterMap.2 ⟨z.2,Zs r.2,by rw[P];simp[Value.ownBlock];omega⟩)
    .omega
 .rintro X e w' x ⟨m,⟨_,rfl⟩|⟨_,E,J,zA,M,I,g,c,rfl,_⟩⟩
  .exact⟨m,_,_,_,_,_,_,_,_,_,_,_,_,_,_,_,_,_,_,rfl⟩
  .exact⟨m,_,_,_,_,_,_,_,_,_,_,_,_,_,_,_,_,_,_,rfl⟩
 .intro zT w' m;have N:¬Au (zs.map (·.1)) s:=fun y=>by obtain⟨i,k,e,_⟩:=MP y;omega
  exact⟨Tn.of m,.inl ⟨2,_,_,.inr ⟨rfl,rfl,.inr (.inr (.inl ⟨rfl,.inl ⟨N,rfl⟩⟩))⟩,rfl⟩⟩
 .rintro h0 X e w' zH x t ⟨m,hQ⟩ y;have N:Au (zs.map (·.1)) s:=Classical.byContradiction fun hn=>by have:=IB hn;omega
  have hB:=Cf x m y;rcases hQ with⟨B,rfl⟩|⟨⟨V,R⟩,E,J,zA,M,I,g,c,rfl,hm,hk,zG,zO,W,zB,zC,zP⟩
  .exact⟨Tn.of hB,.inl ⟨4,_,_,.inr ⟨rfl,rfl,.inr (.inr (.inl ⟨rfl,.inr ⟨N,B,rfl⟩⟩))⟩,rfl⟩⟩
  .have S:=DT hk y Yv;have zN:=DT zO y Yv;have zF:=DT W y Yv;have zR:Bi zH E 0 zA:=Bi.own S (fun z t=>by
    obtain⟨C,O,F,ho⟩:=zG z t;rw[F]at ho;exact⟨⟨C,0,none⟩,O,F,Ad.own (DT ho y Yv)⟩)
   refine⟨Tn.of hB,.inr ⟨⟨⟨#[]⟩,given+1,now,given+1,births,zs.map (·.1),ps,ls++[⟨given+1,s,now+num⟩]⟩,E,some ⟨E,0,none⟩,J,zA,some ⟨M,0,none⟩,I,some ⟨g,0,none⟩,c,.inr (.inr (.inr (.inl ⟨rfl,N,V,R,rfl⟩))),Yu,hm,⟨.inl rfl,zR,(Ac S rfl).2,zN.mono (Zm h.lb x.size),?_,Zm h.lb hB.size,by simp[Value.ownBlock];exact zB,fun q hq e=> ?_,fun z t a n c o _ e=> ?_,.inr (Zm (Zm h.lb x.size) (Ac S rfl).1),fun z t a n c o _=> ?_⟩⟩⟩
   .have h4:zH.ownsRow X.heap.size 71 3 (Yz g (ls++[(⟨given+1,s,now+num⟩:Ld)]).length c) (ls++[(⟨given+1,s,now+num⟩:Ld)]).length (Ab lC (ls++[(⟨given+1,s,now+num⟩:Ld)])):=by rw[List.length_append]at zF |-;exact zF
    exact h4.mono (Zm h.lb x.size)
   .have o:M=q:=by simpa [Value.ownBlock]using hq
    have G:g=q:=by simpa [Value.ownBlock]using e
    exact zC (o.trans G.symm)
   .have G:a.block=g:=by simpa [Value.ownBlock]using e
    exact zP z t a n c o G
   .obtain⟨C,O,F,zM⟩:=zG z t;rw[F]at o;cases o;have q1:=(Ac zM (g:=C) (by rw[F];rfl)).1;have q2:=h.lb;have q3:=x.size;show base<=C;omega
theorem VS(h:CT w base b ta pa la pc lc zs ps ls)(o:GC wd now given births (zs.map (·.1)) ps ls 7 num text refs):
 Calls prog 22 #[.agg (Yg wd now given births ta zs.length tc pa ps.length pc la ls.length lc),.agg (Xz 7 s nm num text ra refs.length rc)] w (NJ base (.slice la ls.length lc) wd now given births (zs.map (·.1)) ps ls 7 s nm num text refs w):=by
 have x:=o.bn.len;have A:zs.length<=600:=by rwa[List.length_map]at x
 by_cases hth:Au (zs.map (·.1)) s
 .obtain rfl:ta=some ⟨b,0,none⟩:=h.tb.resolve_right (fun e=>by obtain⟨u,hu,_⟩:=hth;rw[e]at hu;simp at hu)
  refine Dv 7 53 _ wd now given births (some ⟨b,0,none⟩) pa la zs.length tc ps.length pc ls.length lc s nm text num ra refs.length rc w [] (fun X e w'=>QW X w' e wd now given births (.slice pa ps.length pc) (.slice la ls.length lc) zs ps ls s) _ (.inr (.inr (.inr (.inr (.inr (⟨rfl,rfl,rfl⟩)))))) Yu (fun X d _=>Mg wd now given births b 0 tc pc lc pa la zs ps ls s X (h.below d).z (h.below d).bl (h.below d).fy (h.below d).gh A o.np o.nl (fun z i=>(o.bn.B z.1 (List.mem_map.2 ⟨z,i,rfl⟩)).1) hth) ?_ ?_
  .rintro X e w' ⟨f,⟨_,rfl⟩|⟨_,g,c,rfl,_⟩⟩
   .exact⟨Tn.of f,_,_,_,_,_,_,_,_,_,_,_,_,_,_,_,_,_,_,rfl⟩
   .exact⟨Tn.of f,_,_,_,_,_,_,_,_,_,_,_,_,_,_,_,_,_,_,rfl⟩
  .rintro X e w' C d i ⟨f,⟨q,rfl⟩|⟨l,g,c,rfl,B,G,r⟩⟩ k
   .exact⟨Tn.of (Cf d f k),.inl ⟨6,_,_,.inr ⟨rfl,rfl,.inr (.inr (.inr (.inr (.inr ⟨rfl,.inr ⟨hth,q,rfl⟩⟩))))⟩,rfl⟩⟩
   .have t:=Cf d f k;have j:=h.below t;have y:=B.K k r Yt (fun z i a n c D E v=>by
     simp at v;have:=h.z.cj (List.mem_filter.1 i).1 D E;omega)
    exact⟨Tn.of t,.inr ⟨⟨⟨#[]⟩,0,now,given,births,CK (zs.map (·.1)) s,ps,ls⟩,g,_,c,BD zs s,pa,pc,la,lc,.inr (.inr (.inr (.inr (.inr (.inr ⟨rfl,hth,l,rfl⟩))))),by simp[<-JX],JX zs s,⟨.inl rfl,y,Zr r k.size,j.po,j.lo,j.lb,fun e=>by have m:=h.cz.2.1 g e.symm;have F:=d.size;omega,j.pL,fun z i=>j.zL z (List.mem_filter.1 i).1,.inr (by have m:=h.lb;have F:=d.size;omega),fun z i=>j.zr z (List.mem_filter.1 i).1⟩⟩⟩
 .refine Dv 7 53 _ wd now given births ta pa la zs.length tc ps.length pc ls.length lc s nm text num ra refs.length rc w [] (fun X e w'=>e=.returned (.agg (BB 2 ⟨#[]⟩ ⟨#[]⟩).toArray)/\Zz X w') _ (.inr (.inr (.inr (.inr (.inr (⟨rfl,rfl,rfl⟩)))))) Yu (fun X d _=> ?_) ?_ ?_
  .have m:=MR wd now given births ta pa la tc ps.length pc ls.length lc (zs.map (·.1)) s X (h.below d).dq Yv hth;rw[List.length_map]at m;exact m
  .rintro X e w' ⟨rfl,f⟩;exact⟨Tn.of f,_,_,_,_,_,_,_,_,_,_,_,_,_,_,_,_,_,_,rfl⟩
  .rintro X e w' C d i ⟨rfl,f⟩ k;exact⟨Tn.of (Cf d f k),.inl ⟨2,_,_,.inr ⟨rfl,rfl,.inr (.inr (.inr (.inr (.inr ⟨rfl,.inl ⟨hth,rfl⟩⟩))))⟩,rfl⟩⟩
theorem VT(h:CT w base b ta pa la pc lc zs ps ls)(d:GC wd now given births (zs.map (·.1)) ps ls 1 num text refs)(hr:Ad w w.heap.size ra refs)(W:ra=none->refs.length=0/\rc=0):
 Calls prog 22 #[.agg (Yg wd now given births ta zs.length tc pa ps.length pc la ls.length lc),.agg (Xz 1 s nm num text ra refs.length rc)] w (NJ base (.slice la ls.length lc) wd now given births (zs.map (·.1)) ps ls 1 s nm num text refs w):=by
 refine Dv 1 46 _ wd now given births ta pa la zs.length tc ps.length pc ls.length lc s nm text num ra refs.length rc w (Value.slice la ls.length lc).ownBlock.toList (fun X e w'=>Sz base b wd now given births num zs (.slice pa ps.length pc) (.slice la ls.length lc) ls text refs X e w') _ (.inl ⟨rfl,rfl,rfl⟩) (fun q f=>h.cz.2.1 q (by simpa using f)) (fun X i _=>Uh base wd now given births 1 num ta b tc zs pa la ps.length pc lc ls s nm text refs ra rc X ⟨h.tb,W,(h.below i).z,(h.below i).bl,Ag h.lo i,Zm h.lb i.size,h.bL,h.zL,Ad.mono (Ad.below hr i) i.size,d.bn,d.w1,fun z m=>d.cg z.1 (List.mem_map.2 ⟨z,m,rfl⟩),d.jt,d.jq,d.ax,d.ai,d.bj,d.bh,d.cw,d.cn,d.ft,d.gi,d.nl⟩) ?_ ?_
 .rintro X e w' ⟨l,⟨c,a,J,_,rfl⟩|⟨v,ai,g,K,G,o,c2,_,_,_,_,rfl,_⟩⟩
  .exact⟨l,_,_,_,_,_,_,_,_,_,_,_,_,_,_,_,_,_,_,rfl⟩
  .exact⟨l,_,_,_,_,_,_,_,_,_,_,_,_,_,_,_,_,_,_,rfl⟩
 .rintro X e w' zE i m ⟨Y,hQ⟩ l;have r:=Y;have I:=Tn.fresh ((Tn.of i).trans r) l Yv;rcases hQ with⟨c,a,J,U,rfl⟩|⟨v,ai,g,K,G,o,c2,x,y,S,O,rfl,M,zB,A,B,F,C,ho,Q,zA⟩
  .exact⟨I,.inl ⟨c,a,J,.inl ⟨rfl,U⟩,rfl⟩⟩
  .have P:g≠w.heap.size+2:=by have:=h.bl;rcases B with⟨e,_⟩|e<;>omega
   have Z:=zB.K l A (by simp;exact P) (fun z m a n c k H R=>by
    simp at R;rcases F z m with u|⟨N,n',zC,t,T⟩
    .have:=h.z.cj u k H;omega
    .rw[k]at t;cases t;omega)
   have zG:o≠w.heap.size+2:=by
    rcases C with e|e
    .have:=h.cz.2.1 o e;omega
    .omega
   have D:=NK ho l (by intro q f;have:o=q:=by simpa [Value.ownBlock]using f
                       omega)
   have E:=Ag h.po i;have V:=NK (Ak E (w':=w') (fun q f=>r.block q (Ac E f).2 (fun e=>h.pL q f (by simpa using e)))) l (by intro q f;have:=h.cz.1 q f;omega);have zF:=i.size;have h4:zE.ownsRow base 71 3 (Yz o (ls++[(⟨given+1,AV text refs wd,now+num⟩:Ld)]).length c2) (ls++[(⟨given+1,AV text refs wd,now+num⟩:Ld)]).length (Ab lC (ls++[(⟨given+1,AV text refs wd,now+num⟩:Ld)])):=by rw[List.length_append]at D |-;exact D
   refine⟨I,.inr ⟨⟨AV text refs wd,given+1,now,given+1,ai,v,ps,ls++[⟨given+1,AV text refs wd,now+num⟩]⟩,g,_,K,G,pa,pc,_,c2,.inl ⟨rfl,x,S,O,v,ai,y,rfl⟩,by simp[<-M],M,⟨.inl rfl,Z,Zr A l.size,V,h4,Zm h.lb I.size,by simp[Value.ownBlock];exact Q,fun q f e=> ?_,fun z m a n c j k e=> ?_,?_,fun z m a n c j k=> ?_⟩⟩⟩
   .have j:o=q:=by simpa [Value.ownBlock]using e
    have:=h.cz.1 q f;rcases C with L|L
    .exact h.pL q f (by rw[L,j])
    .omega
   .have H:a.block=o:=by simpa [Value.ownBlock]using e
    exact zA z m a n c j k H
   .rcases B with⟨j,k⟩|j
    .rw[j,k];exact h.zb
    .exact .inr (by have:=h.lb;omega)
   .rcases F z m with u|⟨N,n',zC,t,T⟩
    .exact h.zr z u a n c j k
    .rw[j]at t;cases t;have:=h.lb;omega
theorem KQ(a:Int)(h:CT w base b ta pa la pc lc zs ps ls)(c:GC wd now given births (zs.map (·.1)) ps ls a num text refs)(d:∀k∈zs.map (·.1),k.B.length<=30)(f:Ad w w.heap.size ra refs)(e:ra=none->refs.length=0/\rc=0):
 Calls prog 22 #[.agg (Yg wd now given births ta zs.length tc pa ps.length pc la ls.length lc),.agg (Xz a s nm num text ra refs.length rc)] w (NJ base (.slice la ls.length lc) wd now given births (zs.map (·.1)) ps ls a s nm num text refs w):=by
 obtain rfl|rfl|rfl|rfl|rfl|rfl|rfl:a=1\/a=2\/a=3\/a=4\/a=5\/a=6\/a=7:=by have:=c.jy;have:=c.ke;omega
 .exact VT base wd now given births b ta pa la tc pc lc zs ps ls s nm text num refs ra rc w h c f e
 .exact VQ base wd now given births b ta pa la tc pc lc zs ps ls s nm text num refs ra rc w h c
 .exact VN base wd now given births b ta pa la tc pc lc zs ps ls s nm text num refs ra rc w h c
 .exact VR base wd now given births b ta pa la tc pc lc zs ps ls s nm text num refs ra rc w h c d
 .exact VO base wd now given births b ta pa la tc pc lc zs ps ls s nm text num refs ra rc w h c
 .exact VP base wd now given births b ta pa la tc pc lc zs ps ls s nm text num refs ra rc w h c
 .exact VS base wd now given births b ta pa la tc pc lc zs ps ls s nm text num refs ra rc w h c
end
end
theorem VU{ra:Zk}{rc:Nat}{a:Zl}(h:w.ownsRow base 9 1 (.slice ra a.length rc) a.length (a.map Value.string)):Ad w w.heap.size ra a/\(ra=none->a.length=0/\rc=0):=by
 rcases h.2 with⟨c,d⟩|⟨g,cap,i,c,_,_,f,_⟩
 .injection c with e1 e2 e3;subst e1;exact⟨.inl (List.eq_nil_of_length_eq_zero d),fun _=>⟨d,e3⟩⟩
 .cases c;exact⟨Ad.own h,fun e=>by cases e⟩
theorem CT.low{zs:List (Kd×Value)}(h:CT w base b ta pa la pc lc zs ps ls){V:List Nat}(f:Tn V w w')(j:∀q∈V,q<base):CT w' base b ta pa la pc lc zs ps ls:=by
 have m:∀{e:TypeId} {size:Nat} {v:Value} {n:Nat} {xs:Zj},w.ownsRow base e size v n xs->w'.ownsRow base e size v n xs:=fun h=>Ak h (fun g l=>f.block g (Ac h l).2 (fun e=>by have t:=j g e;have u:=(Ac h l).1;omega));refine⟨h.tb,?_,Zr h.bl f.size,m h.po,m h.lo,Zm h.lb f.size,h.bL,h.pL,h.zL,h.zb,h.zr⟩;rcases h.zb with e|e
 .rw[e];intro i z k;simp at k
 .exact h.z.K f h.bl (fun d=>by have:=j b d;omega) (fun z k a n c o r d=>by have t:=j _ d;have u:=h.zr z k a n c o r;omega)
theorem Aaz{j k l m n o q:Value}(h:Aa w b [j,k,l,m,n,o,q])(a c d e f g i:Value):Aa (((((((w.setCell (Zd b 0) a).setCell (Zd b 1) c).setCell (Zd b 2) d).setCell (Zd b 3) e).setCell (Zd b 4) f).setCell (Zd b 5) g).setCell (Zd b 6) i) b [a,c,d,e,f,g,i]:=
 ((((((h.set 0 a).set 1 c).set 2 d).set 3 e).set 4 f).set 5 g).set 6 i
theorem tn7(w:Zh)(R:Nat)(a c d e f g h:Value):Tn [R] w (((((((w.setCell (Zd R 0) a).setCell (Zd R 1) c).setCell (Zd R 2) d).setCell (Zd R 3) e).setCell (Zd R 4) f).setCell (Zd R 5) g).setCell (Zd R 6) h):=
 ((((((Bl _ _ _ _).trans (Bl _ _ _ _)).trans (Bl _ _ _ _)).trans (Bl _ _ _ _)).trans (Bl _ _ _ _)).trans (Bl _ _ _ _)).trans (Bl _ _ _ _)
theorem Io(wd:Int)(a:Zk)(cap:Nat)(f:Zl)(w:Zh)(V:Ad w w.heap.size a f)(hl:f.length<=1048576)(hs:∀s∈f,s.size<=1048576):
 Calls prog 6 #[Zg wd,.slice a f.length cap] w (ZU wd f w):=by
 obtain⟨W,hW⟩:=Af (w.alloc (.cells Xy 32));have bW:=(AB hW).1;have zW:=(AB hW).2.1;have xW:=(AB hW).2.2;have HW:=Yw hW;have d:=II wd W;obtain⟨⟨F,q0⟩,⟨G,q1⟩,⟨H,q2⟩,⟨I,q3⟩,⟨J,q4⟩,⟨K,q5⟩,⟨L,q6⟩,⟨M,q7⟩,⟨N,q8⟩,⟨O,q9⟩,⟨o,zG⟩,t,zH⟩:=AS xW;clear hW;by_cases hwd:1<=wd/\wd<=8
 .rw[decide_eq_true hwd]at d;by_cases hlen:f.length<=4000
  .have yR:decide ((4000:Int)<f.length)=false:=Yt
   obtain⟨A,hA⟩:=Af (W.alloc (.cells #[Zg wd,Ze,Ze,Ze,Zb,Zb,Zb] 30));have bA:=(AB hA).1;have zA:A.heap.size=w.heap.size+2:=by rw[hA];simp;omega
   have sA:Aa A (w.heap.size+1) [Zg wd,Ze,Ze,Ze,Zb,Zb,Zb]:=by rw[hA,<-zW];exact Aa.new W _ _
   have xA:=Aa.below (v:=Ze) xW bA;have yQ:=bW.trans (bA.mono bW.size);have Q:CT A (w.heap.size+2) w.heap.size none none none 0 0 [] [] []:=⟨.inr rfl,fun i z hz=>by simp at hz,Yv,⟨rfl,.inl ⟨rfl,rfl⟩⟩,⟨rfl,.inl ⟨rfl,rfl⟩⟩,Yv,by simp[Value.ownBlock],fun q hq=>by simp[Value.ownBlock]at hq,fun z hz=>by simp at hz,.inl rfl,fun z hz=>by simp at hz⟩;have u:=Yw d;have HA:=Yw hA
   have H0:=Yw (Zn sA (Zn xA (Zn Q yQ)));have zN:Hid (Ad w w.heap.size a f):=V;clear d hA sA xA Q bA V;go_enter func6,ntmps6;go_wp2_with fail;rw[<-HW.o];refine u.Ah ?_;rintro e w1 ⟨rfl,j⟩;replace j:=j.symm;subst j;clear u;go_upto_region 4 with fail;rw[<-HA.o];clear HA F G H I J K L M N O o t q0 q1 q2 q3 q4 q5 q6 q7 q8 q9 zG zH;go_wp2
   go_loopw [6] (fun i wr=>∃(k:Nat) (r:Rs) (b:Nat) (ta pa la:Zk) (tc pc lc:Nat) (zs:List (Kd×Value)),k<=f.length/\i=Zg k/\Hid (Aa wr (w.heap.size+1) (Yh wd r.E r.F r.C ta zs.length tc pa r.ps.length pc la r.ls.length lc)/\Aa wr w.heap.size z12/\CT wr (w.heap.size+2) b ta pa la pc lc zs r.ps r.ls/\zs.map (·.1)=r.A/\BS wd r0 (f.take k) r/\Zz w wr)) (fun i _=>f.length -(intOf i).toNat)
   case atStart=>exact⟨0,r0,w.heap.size,none,none,none,0,0,0,[],Nat.zero_le _,rfl,⟨H0.o.1,H0.o.2.1,H0.o.2.2.1,rfl,rfl,H0.o.2.2.2⟩⟩
   case round=>
    clear H0;obtain⟨k,r,b,ta,pa,la,tc,pc,lc,zs,hk,rfl,d⟩:=hrel;obtain⟨yC,yD,Q,l,g,m⟩:=d.o;by_cases hlt:k<f.length
    .obtain⟨rb,xC,ha,xF,yA⟩:=((zN.o.below m).mono m.size).at hlt;subst ha;have HG:=Yw (Zv hlt);have yS:=hs _ (List.getElem_mem hlt);have c0:=yA k _ HG.o;have yO:=Yw (Zu hlt);clear yA;generalize f[k]=s at *
     have HR:=Yw (RW s wd wr yS);clear yC yD Q l g m;go_wp2_with fail;refine HR.Ah ?_;rintro e w2 ⟨v,rfl,zY,zV⟩;obtain⟨ra,rc,rfl⟩:=As zY;obtain⟨w3,zF⟩:=Af (w2.alloc (.cells (Xz ((Av s wd).k) ((Av s wd).sum) ((Av s wd).name) ((Av s wd).n) ((Av s wd).t) ra ((Av s wd).ss.length) rc) 38));have zU:=(AB zF).1;have b3:=zV.trans (zU.mono zV.size);have e3:=(AB zF).2.2
     have s3:=Aa.below d.o.1 b3;have x3:=Aa.below (v:=Ze) d.o.2.1 b3;have zB:=d.o.2.2.1.below b3;have P:=Yw (d.o.2.2.2.2.2.trans (b3.mono d.o.2.2.2.2.2.size));have zE:=VU (Ag zY zU);have zI:=Yw zF;have xE:(k:Int)<=4000:=Yv
     clear zF HR;cases hok:(Av s wd).ok with
     |false=>
      obtain⟨⟨F,q0⟩,⟨G,q1⟩,⟨H,q2⟩,⟨I,q3⟩,⟨J,q4⟩,⟨K,q5⟩,⟨L,q6⟩,⟨M,q7⟩,⟨N,q8⟩,⟨O,q9⟩,⟨o,zG⟩,t,zH⟩:=AS x3;clear e3 s3 zB zE c0 x3;go_upto_region 8 with fail;rw[<-zI.o];go_wp2;refine bodyPost_ret (v:=.agg #[Zg 7,Ze,Ze,Ze,Ze,Zb,Zb,Zb,Zc,Zg ((k:Int)+1),Zc,Zc]) (by simp[results,results6,go_sem,F,G,H,I,J,K,L,M,N,O,o,t]) rfl ?_
      exact⟨⟨7,0,0,0,0,((k+1:Nat):Int),⟨#[]⟩,⟨#[]⟩,⟨#[]⟩,[],[],[]⟩,_,_,_,[],.inr ⟨⟨hwd,hlen⟩,.inl ⟨k+1,⟨k,r,s,rfl,HG.o,d.o.2.2.2.2.1,.inl hok⟩,rfl⟩⟩,rfl,Ln _ _,P.o.trans ((Ba w3 w.heap.size _ _ _ _ _ _ _ _ _ _ _ _).below P.o.size Yu)⟩
     |true=>
      have zZ:=(DQ hok).1;have y:=d.o.2.2.2.2.1.ok (Du hwd.1 hwd.2);have l:=d.o.2.2.2.1;have U:GC wd r.E r.F r.C (zs.map (·.1)) r.ps r.ls (Av s wd).k (Av s wd).n (Av s wd).t (Av s wd).ss:=by rw[l];exact FN.jk y zZ (by have:=PD zZ;unfold maxLen;omega)
      have zR:=Yw (KQ (w.heap.size+2) wd r.E r.F r.C b ta pa la tc pc lc zs r.ps r.ls (Av s wd).sum (Av s wd).name (Av s wd).t (Av s wd).n (Av s wd).ss ra rc w3 (Av s wd).k zB U (by rw[l];exact y.dv) zE.1 zE.2);obtain⟨v0,v1,v2,v3,v4,v5,v6⟩:=Aa.c7 s3 0 1 2 3 4 5 6;obtain⟨u0,u1,u2,u3,u4,u5⟩:=Aa.c6 e3 0 1 2 3 4 5;have yN:=Yw s3;have yP:=Yw x3;have zT:=Yw zB;clear e3 s3 zB zE c0 x3 U
      go_upto_region 8 with fail;rw[<-zI.o];clear zI;go_wp2_with fail;refine zR.Ah ?_;rintro e w4 ⟨ht,hQ⟩;have zP:∀q∈(Value.slice la r.ls.length lc).ownBlock.toList,w.heap.size+2<=q:=fun q hq=>(Ac zT.o.lo (by simpa using hq)).1;have zJ:=ht.below zT.o.lb zP;have R:=Aa.same yP.o (zJ.block _ Yv);have s4:=Aa.same yN.o (zJ.block _ Yv)
      have Y:=Yw (P.o.trans (zJ.mono Yv));clear v0 v1 v2 v3 v4 v5 v6 u0 u1 u2 u3 u4 u5 zR ht;rcases hQ with⟨c,a',b',zC,rfl⟩|⟨C,b1,yI,yJ,yK,yG,yH,yE,yF,hy,rfl,hm,hC⟩
      .rw[l]at zC;have xD:(c !=0)=true:=by have:=zC.code;simp;omega
       have yL:=Yw zC;have yB:(BB c a' b').toArray= #[Zg c,Ze,Ze,Ze,Ze,Zb,Zb,Zb,Zc,Ze,.string a',.string b']:=rfl;rw[yB];obtain⟨w5,n⟩:=Af (w4.alloc (.cells #[Zg c,Ze,Ze,Ze,Ze,Zb,Zb,Zb,Zc,Ze,.string a',.string b'] 32));have D:=(AB n).1;have n5:=(AB n).2.2;have S:=Yw (Y.o.trans (D.mono Y.o.size))
       obtain⟨⟨F,q0⟩,⟨G,q1⟩,⟨H,q2⟩,⟨I,q3⟩,⟨J,q4⟩,⟨K,q5⟩,⟨L,q6⟩,⟨M,q7⟩,⟨N,q8⟩,⟨O,q9⟩,⟨o,zG⟩,t,zH⟩:=AS (Aa.below (v:=Ze) R D);obtain⟨m0,_⟩:=n5 0 _ rfl;have Z:=Yw n;clear n zC n5 R s4 yB;go_upto_region 11 with fail;rw[<-Z.o];go_wp2;refine bodyPost_ret (v:=.agg #[Zg 7,Ze,Ze,Ze,Ze,Zb,Zb,Zb,Zc,Zg ((k:Int)+1),Zc,Zc]) (by simp[results,results6,go_sem,F,G,H,I,J,K,L,M,N,O,o,t]) rfl ?_
       exact⟨⟨7,0,0,0,0,((k+1:Nat):Int),⟨#[]⟩,⟨#[]⟩,⟨#[]⟩,[],[],[]⟩,_,_,_,[],.inr ⟨⟨hwd,hlen⟩,.inl ⟨k+1,⟨k,r,s,rfl,HG.o,d.o.2.2.2.2.1,.inr ⟨c,a',b',yL.o⟩⟩,rfl⟩⟩,rfl,Ln _ _,S.o.trans ((Ba w5 w.heap.size _ _ _ _ _ _ _ _ _ _ _ _).below S.o.size Yu)⟩
      .rw[l]at hy;obtain⟨w5,n⟩:=Af (w4.alloc (.cells #[Ze,Zg wd,Zg C.E,Zg C.F,Zg C.C,.slice yI C.A.length yJ,.slice yG C.ps.length yH,.slice yE C.ls.length yF,.string C.y,Zg C.le,Zc,Zc] 32));have D:=(AB n).1;have n5:=(AB n).2.2;have E:=Aa.below s4 D;have x5:=Aa.below (v:=Ze) R D;have zK:=hC.below D;have zS:=Yw (Y.o.trans (D.mono Y.o.size))
       have zX:C.A.length=yK.length:=by rw[<-hm,List.length_map]
       have H5:=Yw (Zn E (Zn x5 (Zn zK (Zn hm (Zn hy zX)))));obtain⟨⟨v0,p0⟩,⟨v1,p1⟩,⟨v2,p2⟩,⟨v3,p3⟩,⟨v4,p4⟩,⟨v5,p5⟩,v6,p6⟩:=(⟨E 0 _ rfl,E 1 _ rfl,E 2 _ rfl,E 3 _ rfl,E 4 _ rfl,E 5 _ rfl,E 6 _ rfl⟩:(_/\_)/\(_/\_)/\(_/\_)/\(_/\_)/\(_/\_)/\(_/\_)/\_/\_);obtain⟨m0,m1,m2,m3,m4,m5,m6⟩:=Aa.c7 n5 0 1 2 3 4 5 6;obtain⟨m7,_⟩:=n5 7 _ rfl;have Z:=Yw n;have zO:Hid (BS wd r0 (f.take (k+1)) C):=by show BS _ _ _ _;rw[yO.o];exact d.o.2.2.2.2.1.snoc ⟨hok,hy⟩
       have xB:=zK.lb;clear n hy n5 R s4 E x5 hC zK zX hm;go_upto_region 11 with fail;rw[<-Z.o];clear Z;go_wp2
       refine⟨⟨k+1,C,b1,yI,yG,yE,yJ,yH,yF,yK,Yv,Yn,⟨?_,Aa.same H5.o.2.1 ((tn7 w5 (w.heap.size+1) _ _ _ _ _ _ _).block _ Yv Yu),H5.o.2.2.1.low (tn7 w5 (w.heap.size+1) _ _ _ _ _ _ _) Yu,H5.o.2.2.2.1,zO.o,zS.o.trans ((tn7 w5 (w.heap.size+1) _ _ _ _ _ _ _).below zS.o.size Yu)⟩⟩,Ys⟩;rw[<-H5.o.2.2.2.2.2];exact Aaz H5.o.1 _ _ _ _ _ _ _
    .obtain rfl:k=f.length:=Yv
     have g:=d.o.2.2.2.2.1;rw[Zt (Zx)]at g;have y:=g.ok (Du hwd.1 hwd.2);have l:=d.o.2.2.2.1;have x:=d.o.2.2.1;have h1:=IW wd r.E r.F r.C ta pa la tc pc lc (zs.map (·.1)) r.ps r.ls wr ⟨x.dq,x.fy,x.gh⟩ (fun B hB=>by
      rcases x.tb with e|e
      .rw[e]at hB;cases hB;exact x.z.some
      .rw[e];intro i k hk;simp at hk) (EU x.po) (EU x.lo) (by rw[l];exact y.bn.len) y.np y.nl (by rw[l];exact y.dv)
     rw[List.length_map,l]at h1;have HC:=Yw h1;have yM:=Yw g;obtain⟨v0,v1,v2,v3,v4,v5,v6⟩:=Aa.c7 d.o.1 0 1 2 3 4 5 6;clear h1 g y l x yC yD Q m;go_wp2_with fail;refine HC.Ah ?_;rintro e w4 ⟨T,P',L',rs,rfl,hS,_,zM⟩;obtain⟨yY,yZ,rfl⟩:=As hS.ak;obtain⟨yW,yX,rfl⟩:=As hS.pins;obtain⟨yU,yV,rfl⟩:=As hS.aq;have R:=Aa.below (v:=Ze) d.o.2.1 zM;have yT:=d.o.2.1.lt;have HF:=Yw (Zn hS zM)
     obtain⟨⟨F,q0⟩,⟨G,q1⟩,⟨H,q2⟩,⟨I,q3⟩,⟨J,q4⟩,⟨K,q5⟩,⟨L,q6⟩,⟨M,q7⟩,⟨N,q8⟩,⟨O,q9⟩,⟨o,zG⟩,t,zH⟩:=AS R;clear hS zM HC R v0 v1 v2 v3 v4 v5 v6;go_wp2;refine bodyPost_ret (v:=.agg #[Ze,Zg wd,Zg r.E,Zg r.F,Zg r.C,.slice yY r.A.length yZ,.slice yW r.ps.length yX,.slice yU r.ls.length yV,Zc,Ze,Zc,Zc]) (by simp[results,results6,go_sem,F,G,H,I,J,K,L,M,N,O,o,t]) rfl ?_;have m:=d.o.2.2.2.2.2
     refine⟨⟨0,wd,r.E,r.F,r.C,0,⟨#[]⟩,⟨#[]⟩,⟨#[]⟩,r.A,r.ps,r.ls⟩,_,_,_,rs,.inr ⟨⟨hwd,hlen⟩,.inr ⟨r,yM.o,rfl⟩⟩,rfl,(HF.o.1.K (Ba w4 w.heap.size _ _ _ _ _ _ _ _ _ _ _ _) (by simp;exact yT)).mono m.size,?_⟩;exact(m.trans (HF.o.2.mono m.size)).trans ((Ba w4 w.heap.size _ _ _ _ _ _ _ _ _ _ _ _).below (Zm m.size HF.o.2.size) Yu)
  .have yR:decide ((4000:Int)<f.length)=true:=Yt
   have u:=Yw d;clear d;go_enter func6,ntmps6;go_wp2_with fail;rw[<-HW.o];refine u.Ah ?_;rintro e w1 ⟨rfl,j⟩;replace j:=j.symm;subst j;clear u;go_wp2;refine bodyPost_ret (v:=.agg (Xx 1)) (by simp[results,results6,go_sem,F,G,H,I,J,K,L,M,N,O,o,t]) rfl ?_
   exact⟨⟨1,0,0,0,0,0,⟨#[]⟩,⟨#[]⟩,⟨#[]⟩,[],[],[]⟩,_,_,_,[],.inl ⟨fun h=>hlen h.2,rfl⟩,rfl,Ln _ _,bW.trans ((Ba W w.heap.size _ _ _ _ _ _ _ _ _ _ _ _).below bW.size Yu)⟩
 .rw[decide_eq_false hwd]at d;have u:=Yw d;clear d;go_enter func6,ntmps6;go_wp2_with fail;rw[<-HW.o];refine u.Ah ?_;rintro e w1 ⟨rfl,j⟩;replace j:=j.symm;subst j;clear u;go_wp2;refine bodyPost_ret (v:=.agg (Xx 1)) (by simp[results,results6,go_sem,F,G,H,I,J,K,L,M,N,O,o,t]) rfl ?_
  exact⟨⟨1,0,0,0,0,0,⟨#[]⟩,⟨#[]⟩,⟨#[]⟩,[],[],[]⟩,_,_,_,[],.inl ⟨fun h=>hwd h.1,rfl⟩,rfl,Ln _ _,bW.trans ((Ba W w.heap.size _ _ _ _ _ _ _ _ _ _ _ _).below bW.size Yu)⟩
theorem YG(h:z12[j]?=some (.string s)):s=⟨#[]⟩:=by have:=Zs h;simpa [z12]using this
theorem PK{a:Nat×Nat}(h:w.heap[o]?=some (.cells z12.toArray t a))(j:Nat):w.cell? (Zd o j)=z12[j]?:=by simp[World.cell?,h]
theorem Bi.ie{A:Nat×Nat}{zs:List (Kd×Value)}(h:Bi w b 0 zs)(l:w.heap[o]?=Option.some (.cells z12.toArray t A))(v:∀z∈zs,∀s∈z.1.B,s≠⟨#[]⟩)(E:Tn [o] w w')(u:b<w.heap.size):Bi w' b 0 zs:=by
 cases hzs:zs with
 |nil=>intro i z a;simp at a
 |cons z0 zs0=>
  rw[<-hzs];have B:b≠o:=by rintro rfl;obtain⟨⟨g,_⟩,_⟩:=h 0 z0 (by rw[hzs];rfl);rw[Nat.zero_mul,Nat.add_zero,PK l]at g;simp[z12]at g
  refine h.K E u (by simpa using B) (fun z a H n rc e m c=> ?_);obtain⟨i,D⟩:=List.getElem?_of_mem a;obtain⟨_,F,G,k,f⟩:=h i z D;rw[e]at k;cases k;rcases f with f|⟨I,x,y,_,C⟩
  .exact m f
  .cases y;simp at c;subst c;obtain⟨r,q,d⟩:∃r q,z.1.B=r::q:=List.exists_cons_of_ne_nil m;have j:=C 0 r (by rw[d];rfl);rw[PK l]at j;exact v z a r (by rw[d];simp) (YG j)
theorem CT.ie{zs:List (Kd×Value)}(h:CT w base b ta pa la pc lc zs ps ls)(f:w.heap[o]?=some (.cells z12.toArray 32))(i:∀z∈zs,∀s∈z.1.B,s≠⟨#[]⟩)(e:Tn [o] w w'):CT w' base b ta pa la pc lc zs ps ls:=
 ⟨h.tb,h.z.ie f i e h.bl,Zr h.bl e.size,Ak h.po (fun g d=>e.block g (Ac h.po d).2 (by
  simp only[List.mem_singleton];rintro rfl;obtain⟨c,a⟩:=BZ h.po d;rw[f]at a;simp at a)),Ak h.lo (fun g d=>e.block g (Ac h.lo d).2 (by
  simp only[List.mem_singleton];rintro rfl;obtain⟨c,a⟩:=BZ h.lo d;rw[f]at a;simp at a)),Zm h.lb e.size,h.bL,h.pL,h.zL,h.zb,h.zr⟩
theorem CT.of{h:Zj}{d:List Kd}(a:AY w base T P L h d ps ls)(r:∀v∈T::P::L::h,∃g n c,v=Yz g n c)(M:base<=w.heap.size):
 ∃b p l tc pc lc zs,T=Yz b zs.length tc/\P=Yz p ps.length pc/\L=Yz l ls.length lc/\zs.map (·.1)=d/\CT w base b (some ⟨b,0,none⟩) (some ⟨p,0,none⟩) (some ⟨l,0,none⟩) pc lc zs ps ls/\base<=l/\l<w.heap.size:=by
 obtain⟨b,D,tc,rfl⟩:=r T Yu;obtain⟨p,E,pc,rfl⟩:=r P Yu;obtain⟨l,F,lc,rfl⟩:=r L Yu;obtain⟨_,_,H⟩:=As a.ak;obtain⟨_,_,I⟩:=As a.pins;obtain⟨_,_,J⟩:=As a.aq;cases H;cases I;cases J;have hlen:(d.zip h).length=d.length:=by rw[List.length_zip,a.len];omega
 have t:(d.zip h).map (·.1)=d:=List.map_fst_zip (by rw[a.len];exact Zx);have m:=a.nd;rw[FY]at m;unfold Ci at m;obtain⟨D,E,F⟩:=PJ m (l:=l) rfl;have y:=a.ak;rw[<-hlen]at y;have o:∀z∈d.zip h,∃i,d[i]?=some z.1/\h[i]?=some z.2:=fun z f=>by obtain⟨i,B⟩:=List.getElem?_of_mem f;rw[List.getElem?_zip_eq_some]at B;exact⟨i,B.1,B.2⟩
 refine⟨b,p,l,tc,pc,lc,d.zip h,by rw[hlen],rfl,rfl,t,⟨.inl rfl,?_,(Ac a.ak rfl).2,a.pins,a.aq,M,?_,?_,?_,.inr (Ac a.ak rfl).1,?_⟩,Ac a.aq rfl⟩
 .refine Bi.own y (fun z f=> ?_);obtain⟨i,q,j⟩:=o z f;have k:=a.B i z.1 z.2 q j;obtain⟨K,R,G,A⟩:=r z.2 (by simp;exact .inr (.inr (.inr (Zs j))));obtain⟨Q,O,u⟩:=As k;rw[A]at u;cases u;rw[A]at k;exact⟨⟨K,0,none⟩,G,A,Ad.own k⟩
 .intro e;simp[Value.ownBlock]at e;exact D (by simp[Value.ownBlock,e])
 .intro g N e;simp[Value.ownBlock]at N e;exact E (by simp[Value.ownBlock];omega)
 .intro z f C n rc e _ x;simp[Value.ownBlock]at x;obtain⟨i,q,j⟩:=o z f;refine F (List.mem_filterMap.2 ⟨z.2,Zs j,?_⟩);rw[e];simp[Value.ownBlock,x]
 .intro z f C n rc e _;obtain⟨i,q,j⟩:=o z f;have k:=a.B i z.1 z.2 q j;rw[e]at k;exact(Ac k (g:=C.block) (by simp[Value.ownBlock])).1
structure Uj (w wx:Zh) (v:Vd) (a:Va) (b:Nat) (o:An) (ta pa la:Zk) (tc pc lc:Nat):Prop where
 box:Aa wx b [Zg o.code,Zg o.wd,Zg o.E,Zg o.F,Zg o.C,.slice ta o.A.length tc,.slice pa o.ps.length pc,.slice la o.ls.length lc,.string o.y,Zg o.le,.string o.a,.string o.b]
 rows:Bt wx wx.heap.size ta pa la o.A o.ps o.ls
 rto:FT v.wd (v.ss++v.D) o
 jd:Aa wx w.heap.size [Zg v.wd,Zg v.lim,.slice a.X v.ss.length a.sc,.slice a.V v.D.length a.W,Zg v.S,Zg v.E,Zg v.F,Zg v.C,.slice a.Y v.A.length a.j,.slice a.O v.ps.length a.U,.slice a.M v.ls.length a.T,Zg v.L,.slice a.g v.G.length a.qc,.slice a.i v.ms.length a.mc,Zg v.Q,Zg v.P,Zg v.ro]
 cu:Below w.heap.size w wx
theorem Uj.fin{c d:Zh}{o:An}(h:FT v.wd (v.ss++v.D) o)(i:∀X,Tn [b] d X->Bt X X.heap.size ta pa la o.A o.ps o.ls)(f:Zz w c)(e:Zz c d)(l:Aa c w.heap.size (Xn v a))(n:w.heap.size<c.heap.size)(m:Aa d b z12)(r:c.heap.size<=b):
 Uj w ((((((((((((d.setCell (Zd b 0) (Zg o.code)).setCell (Zd b 1) (Zg o.wd)).setCell (Zd b 2) (Zg o.E)).setCell (Zd b 3) (Zg o.F)).setCell (Zd b 4) (Zg o.C)).setCell (Zd b 5) (.slice ta o.A.length tc)).setCell (Zd b 6) (.slice pa o.ps.length pc)).setCell (Zd b 7) (.slice la o.ls.length lc)).setCell (Zd b 8) (.string o.y)).setCell (Zd b 9) (Zg o.le)).setCell (Zd b 10) (.string o.a)).setCell (Zd b 11) (.string o.b)) v a b o ta pa la tc pc lc:=by
 have g:=Ba d b (Zg o.code) (Zg o.wd) (Zg o.E) (Zg o.F) (Zg o.C) (.slice ta o.A.length tc) (.slice pa o.ps.length pc) (.slice la o.ls.length lc) (.string o.y) (Zg o.le) (.string o.a) (.string o.b);have q:=e.size;refine⟨Sd m _ _ _ _ _ _ _ _ _ _ _ _,?_,h,?_,?_⟩
 .exact i _ g
 .exact Aa.same (Aa.below l e) (g.block _ Yv Yt)
 .exact(f.trans (e.mono f.size)).trans (g.below (by have:=f.size;omega) (fun j k=>by simp at k;have:=f.size;omega))
theorem Ew(v:Vd)(a:Va)(w:Zh)(hr:CQ w w.heap.size a v)(hc:VJ a v)(m:Ge v):
 Calls prog 124 #[.agg (Xp v a)] w fun e w'=>Aq (Cy v) w w' e:=by
 obtain⟨W,hW⟩:=Af (w.alloc (.cells (Xp v a) 51));have H:=(AB hW).1;have zW:=(AB hW).2.1;have xW:=(AB hW).2.2;have HX:Hid (Aa W _ _):=(AB hW).2.2;have HR:=Yw hr;have HW:=Yw hW;have O:=Yw (II v.wd W);have zC:=Yw (Fx v.lim 0 1000000 W);have zI:=Yw (Ef a.X a.V a.sc a.W v.ss v.D W w.heap.size H.size (hr.s.below H) (hr.t.below H) m.s m.t m.ss m.D)
 obtain⟨I,J,K,M,y4,y5,y6,y7,y8,y9,A,B,C,D,E,F,G⟩:=PE xW;clear hW xW hr;by_cases hwd:1<=v.wd/\v.wd<=8
 .rw[decide_eq_true hwd]at O;by_cases hlim:0<=v.lim/\v.lim<=1000000
  .rw[decide_eq_true hlim]at zC;cases hlog:Ct v.ss v.D with
   |true=>
    rw[hlog]at zI;have yH:=EG hlog;obtain⟨Z,zK⟩:=Af (v.ss++v.D);have HA:Hid (∀X,Zz W X->Calls prog 13 #[.agg #[.slice a.X v.ss.length a.sc,.slice a.V v.D.length a.W]] X fun e w'=>∃g cap,e=.returned (Yz g Z.length cap)/\w'.ownsRow X.heap.size 9 1 (Yz g Z.length cap) Z.length (Z.map Value.string)/\Zz X w'):=fun X hX=>by have hb:=H.trans (hX.mono H.size);rw[zK];exact JQ a.X a.V a.sc a.W v.ss v.D X (HR.o.s.N hb) (HR.o.t.N hb) hc.s hc.t m.s m.t
    have HS:Hid (∀(X:Zh) (g cap:Nat),Ad X X.heap.size (some ⟨g,0,none⟩) Z->Calls prog 6 #[Zg v.wd,Yz g Z.length cap] X fun e w'=>∃(o:An) (ta:Zk) (tc:Nat) (pa:Zk) (pc:Nat) (la:Zk) (lc:Nat) (rs:Zj),e=.returned (.agg #[Zg o.code,Zg o.wd,Zg o.E,Zg o.F,Zg o.C,.slice ta o.A.length tc,.slice pa o.ps.length pc,.slice la o.ls.length lc,.string o.y,Zg o.le,.string o.a,.string o.b])/\FT v.wd Z o/\AY w' X.heap.size (.slice ta o.A.length tc) (.slice pa o.ps.length pc) (.slice la o.ls.length lc) rs o.A o.ps o.ls/\Zz X w'):=fun X g cap h=>by
     refine(Io v.wd _ _ Z X h (by rw[zK];omega) (fun s hs=>by rw[zK]at hs;rcases List.mem_append.1 hs with h|h;exact m.ss s h;exact m.D s h)).mono ?_;rintro e w' ⟨o,T,P,L,rs,f,rfl,hS,hb⟩;obtain⟨ta,tc,pa,pc,la,lc,rfl,rfl,rfl,_⟩:=hS.rows;exact⟨o,ta,tc,pa,pc,la,lc,rs,rfl,f,hS,hb⟩
    have zU:=Yw zK;clear zK;have HM:=Yw hc.m;clear hc;go_enter func124,ntmps124;go_wp2_with fail;rw[<-HW.o];refine O.Ah ?_;rintro e w1 ⟨rfl,c⟩;replace c:=c.symm;subst c;go_wp2_with fail;refine zC.Ah ?_;rintro e w1 ⟨rfl,c⟩;replace c:=c.symm;subst c;go_wp2_with fail;refine zI.Ah ?_;rintro e d ⟨rfl,R⟩;have x2:=Aa.below HX.o R
    have z2:w.heap.size+1<=d.heap.size:=by have:=R.size;omega
    have yA:=Yw R;have zN:=Yw x2;have N:=Yw (H.trans (R.mono H.size));clear I J K M y4 y5 y6 y7 y8 y9 A B C D E F G O zC zI R HW;obtain⟨I,J,K,M,_⟩:=PE x2;clear x2;go_upto_region 3 with fail;generalize (.agg (Xp v a):Value)=dv0;go_cut [3] (fun u wx=>∃(b:Nat) (o:An) (ta pa la:Zk) (tc pc lc:Nat),u=Yy b/\Hid (Uj w wx v a b o ta pa la tc pc lc))
    case first=>
     have Q:Hid (∀X,Zz d X->X.cell? (Zd (w.heap.size) 0)=some (Zg v.wd)/\X.cell? (Zd (w.heap.size) 2)=some (.slice a.X v.ss.length a.sc)/\X.cell? (Zd (w.heap.size) 3)=some (.slice a.V v.D.length a.W)):=fun X hX=>by obtain⟨u0,u1,u2,u3,_⟩:=PE (Aa.below zN.o hX);exact⟨u0,u2,u3⟩
     have HL:Hid (∀X,Zz d X->Zz W X):=fun X hX=>yA.o.trans (hX.mono yA.o.size);have D0:Below d.heap.size d d.drew:=Ae.drew;have D1:∀o,Zz d (d.alloc o).drew:=fun o=>(Zy).drew;clear I J K M
     go_region_held3 (fun X=>X.cell? (Zd (w.heap.size) 0)=some (Zg v.wd)/\X.cell? (Zd (w.heap.size) 2)=some (.slice a.X v.ss.length a.sc)/\X.cell? (Zd (w.heap.size) 3)=some (.slice a.V v.D.length a.W))
      (first
        |with_reducible exact Q.o _ D0
        |with_reducible exact Q.o _ (D1 _)
        |with_reducible exact Q.o _ j
        |with_reducible exact Q.o _ (j.alloc j.size _)
        |with_reducible exact Q.o _ t
        |with_reducible exact Q.o _ (t.alloc t.size _)
        |with_reducible exact Q.o _ (t.trans ((Ba Y _ _ _ _ _ _ _ _ _ _ _ _ _).below t.size (by intro x hx;simp at hx;omega))))
      (first
        |(go_at_call 13;guard_target=~Calls prog 13 _ (World.drew (World.alloc d _)) _;refine Calls.mono (HA.o (d.alloc (.cells Xy 32)).drew (HL.o _ (D1 _))) ?_;rintro e i ⟨g,cap,rfl,zJ,zO⟩;have j:Below d.heap.size d i:=(D1 _).trans (zO.mono Yu);have S:=Ad.own zJ;clear zJ;have zA:Aa i d.heap.size z12:=Aa.below (v:=Ze) (w:=(d.alloc (.cells Xy 32))) (Aa.new d z12 32) (Dg zO))
        |(go_at_call 13;guard_target=~Calls prog 13 _ (World.drew d) _;refine Calls.mono (HA.o d.drew (HL.o _ D0)) ?_;rintro e i ⟨g,cap,rfl,zJ,zO⟩;have j:Below d.heap.size d i:=D0.trans zO;have S:=Ad.own zJ;clear zJ;have nA:=j)
        |(go_at_call 6;have zP:=zA;refine Calls.mono (HS.o i g cap S) ?_;rintro e Y ⟨o,ta,tc,pa,pc,la,lc,rs,rfl,f,z,U⟩;have y:=Yw (Zn f z);clear f z S;have t:Below d.heap.size d Y:=j.trans (U.mono j.size);have zX:Aa Y d.heap.size z12:=Aa.below (v:=Ze) zA U;have zZ:d.heap.size<i.heap.size:=Aa.lt (v:=Ze) zA;have zG:d.heap.size<=d.heap.size:=Zx;obtain⟨⟨t0,q0⟩,⟨t1,q1⟩,⟨t2,q2⟩,⟨t3,q3⟩,⟨t4,q4⟩,⟨t5,q5⟩,⟨t6,q6⟩,⟨t7,q7⟩,⟨t8,q8⟩,⟨t9,q9⟩,⟨t10,q10⟩,t11,q11⟩:=AS zX)
        |(go_at_call 6;guard_target=~Calls prog 6 _ (World.alloc i _) _;refine Calls.mono (HS.o (i.alloc (.cells Xy 32)) g cap (S.N (Zy))) ?_;rintro e Y ⟨o,ta,tc,pa,pc,la,lc,rs,rfl,f,z,U⟩;have y:=Yw (Zn f z);clear f z S;have t:Below d.heap.size d Y:=(j.alloc j.size _).trans (U.mono (by have:=j.size;simp;omega));have zY:Aa Y i.heap.size z12:=Aa.below (v:=Ze) (w:=(i.alloc (.cells Xy 32))) (Aa.new i z12 32) U;have zG:d.heap.size<=i.heap.size:=j.size;obtain⟨⟨t0,q0⟩,⟨t1,q1⟩,⟨t2,q2⟩,⟨t3,q3⟩,⟨t4,q4⟩,⟨t5,q5⟩,⟨t6,q6⟩,⟨t7,q7⟩,⟨t8,q8⟩,⟨t9,q9⟩,⟨t10,q10⟩,t11,q11⟩:=AS zY)
        |(go_at_call 6;have zP:=nA;refine Calls.mono (HS.o i g cap S) ?_;rintro e Y ⟨o,ta,tc,pa,pc,la,lc,rs,rfl,f,z,U⟩;have y:=Yw (Zn f z);clear f z S;have t:Below d.heap.size d Y:=j.trans (U.mono j.size);have nD:=nA))
     all_goals
      go_wp2_with fail;go_meet
     all_goals first
      |(have zP:=zX
        exact⟨d.heap.size,o,ta,pa,la,tc,pc,lc,rfl,Uj.fin (zU.o▸y.o.1) (fun X ht=>AY.get (y.o.2.K ht (by simp;exact zZ))) N.o t zN.o Yv zX zG⟩)
      |(have zP:=zY
        exact⟨i.heap.size,o,ta,pa,la,tc,pc,lc,rfl,Uj.fin (zU.o▸y.o.1) (fun X ht=>AY.get (y.o.2.K ht Yu)) N.o t zN.o Yv zY zG⟩)
      |(have zP:=nD
        exact⟨Y.heap.size,o,ta,pa,la,tc,pc,lc,rfl,⟨Aa.new Y [Zg o.code,Zg o.wd,Zg o.E,Zg o.F,Zg o.C,.slice ta o.A.length tc,.slice pa o.ps.length pc,.slice la o.ls.length lc,.string o.y,Zg o.le,.string o.a,.string o.b] 32,(AY.get y.o.2).N (Zy),zU.o▸y.o.1,Aa.below (Aa.below zN.o t) (Zy),(N.o.trans (t.mono N.o.size)).alloc (Zm N.o.size t.size) _⟩⟩)
    case rest=>
     clear I J K M HA HS;obtain⟨b,o,ta,pa,la,tc,pc,lc,rfl,V⟩:=hcut;rcases V.o.rto with⟨yI,_⟩|⟨_,⟨n,zE,ho⟩|⟨r,zE,ho⟩⟩
     .exact absurd ⟨hwd,yH⟩ yI
     .have zR:o.code=7:=by rw[ho]
      obtain⟨m0,_⟩:=V.o.box 0 _ rfl;rw[zR]at m0;have zB:=Yw V.o.cu;have zS:Hid (¬Cy v):=fun⟨r,h⟩=>Ec.not hwd.1 hwd.2 zE h.run;clear ho zE V;go_wp2;go_ret;exact Aq.no zS.o zB.o
     .subst ho;have zF:=zE.ok (Du hwd.1 hwd.2);obtain⟨⟨m0,_⟩,⟨m1,_⟩,⟨m2,_⟩,⟨m3,_⟩,⟨m4,_⟩,⟨m5,_⟩,⟨m6,_⟩,m7,_⟩:=Ww V.o.box;obtain⟨I,J,K,M,y4,y5,y6,y7,y8,y9,A,B,C,D,E,F,G⟩:=PE V.o.jd;have zB:=Yw V.o.cu;have yE:=HR.o.st.ag zB.o
      have yC:=Yw (LP v.wd r.E r.F r.C v.S v.E v.F v.C ta pa la a.Y a.O a.M tc pc lc a.j a.U a.T r.A v.A r.ps v.ps r.ls v.ls wc V.o.rows (yE.mono zB.o.size) ⟨by have:=zF.bn.len;omega,by have:=zF.np;omega,by have:=zF.nl;omega⟩ ⟨m.st.k,m.st.p,m.st.l⟩ (fun k hk=>by have:=zF.dv k hk;omega) m.st.r);have zT:=Yw V.o.jd;have zM:=Yw zE;have yG:=Yw zF.ai;clear yE zF V;go_wp2_with fail
      refine yC.Ah ?_;rintro e w5 ⟨bb,rfl,l,zV⟩;have zH:=Yw (zB.o.trans (zV.mono zB.o.size));have x5:=Aa.below zT.o zV;clear m0 m1 m2 m3 m4 m5 m6 m7 I J K M y4 y5 y6 y7 y8 y9 A B C D E F G yC zV zE;cases bb with
      |false=>
       have zS:Hid (¬Cy v):=fun⟨r',h⟩=>by obtain rfl:=zM.o.de h.run;have:=l.2 h.same;cases this
       clear l x5 zT;go_wp2;go_ret;exact Aq.no zS.o zH.o
      |true=>
       have q:=Yw (l.1 rfl);obtain⟨I,J,K,M,y4,y5,y6,y7,y8,y9,A,B,C,D,E,F,G⟩:=PE x5;have yB:=Yw (Vt v.S v.E v.F v.C v.L v.Q v.P v.ro (.slice a.Y v.A.length a.j) (.slice a.O v.ps.length a.U) (.slice a.M v.ls.length a.T) a.g a.i a.qc a.mc v.G v.ms w5 (HR.o.q.N zH.o) (HR.o.m.N zH.o) m.r HM.o (by have h1:=q.o.1.2.2.2;have h2:=yG.o;omega));clear l x5 zT;go_wp2_with fail;refine yB.Ah ?_
       rintro e w6 ⟨bb,rfl,l,yD⟩;have yF:=Yw (zH.o.trans (yD.mono zH.o.size));have HN:Hid (bb=true↔Cy v):=by have h1:=q.o.1.1;rw[<-h1]at l;refine⟨fun h=>⟨r,hwd,hlim,hlog,zM.o,q.o,l.1 h⟩,fun⟨r',h⟩=>l.2 h.round⟩
       clear I J K M y4 y5 y6 y7 y8 y9 A B C D E F G yB l yD;go_wp2;go_ret;exact⟨bb,rfl,HN.o,yF.o⟩
   |false=>
    rw[hlog]at zI;go_enter func124,ntmps124;go_wp2_with fail;rw[<-HW.o];refine O.Ah ?_;rintro e w1 ⟨rfl,c⟩;replace c:=c.symm;subst c;go_wp2_with fail;refine zC.Ah ?_;rintro e w1 ⟨rfl,c⟩;replace c:=c.symm;subst c;go_wp2_with fail;refine zI.Ah ?_;rintro e d ⟨rfl,R⟩;have N:=Yw (H.trans (R.mono H.size));clear I J K M y4 y5 y6 y7 y8 y9 A B C D E F G;go_wp2;go_ret
    exact Aq.no (fun⟨r,h⟩=>by have:=h.log;rw[hlog]at this;cases this) N.o
  .rw[decide_eq_false hlim]at zC;go_enter func124,ntmps124;go_wp2_with fail;rw[<-HW.o];refine O.Ah ?_;rintro e w1 ⟨rfl,c⟩;replace c:=c.symm;subst c;go_wp2_with fail;refine zC.Ah ?_;rintro e w1 ⟨rfl,c⟩;replace c:=c.symm;subst c;clear I J K M y4 y5 y6 y7 y8 y9 A B C D E F G;go_wp2;go_ret;exact Aq.no (fun⟨r,h⟩=>hlim h.lim) H
 .rw[decide_eq_false hwd]at O;go_enter func124,ntmps124;go_wp2_with fail;rw[<-HW.o];refine O.Ah ?_;rintro e w1 ⟨rfl,c⟩;replace c:=c.symm;subst c;clear I J K M y4 y5 y6 y7 y8 y9 A B C D E F G;go_wp2;go_ret;exact Aq.no (fun⟨r,h⟩=>hwd h.wd) H
theorem CT.srows{zs:List (Kd×Value)}(h:CT w base b ta pa la pc lc zs ps ls):Bt w w.heap.size ta pa la (zs.map (·.1)) ps ls:=⟨h.dq,h.fy,h.gh⟩
def ZSp(r:Rs)(xa:Zk)(_:Nat)(pa:Zk)(pc:Nat)(la:Zk)(lc:Nat)(X:Zh):Prop:=
 ∃base b zs,zs.map (·.1)=r.A/\CT X base b xa pa la pc lc zs r.ps r.ls
def KSp(v:Vd)(cs:Zj)(V:List Nat)(X:Zh):Prop:=
 ∃base b p l tc pc lc zs,cs=[Zg v.S,Zg v.E,Zg v.F,Zg v.C,.slice (some ⟨b,0,none⟩) zs.length tc,.slice (some ⟨p,0,none⟩) v.ps.length pc,.slice (some ⟨l,0,none⟩) v.ls.length lc]/\V=[l]/\zs.map (·.1)=v.A/\CT X base b (some ⟨b,0,none⟩) (some ⟨p,0,none⟩) (some ⟨l,0,none⟩) pc lc zs v.ps v.ls
theorem CN.sz{e:List Kd}{j:Int}(f:1<=wd)(h:∀k∈e,(k.sum.size:Int)=wd)(c:CN wd now given births e ps ls j s nm num text refs r):∀k∈r.A,(k.sum.size:Int)=wd:=by
 rcases c with⟨rfl,_,i,g,n,o,c,rfl⟩|⟨_,_,d,rfl⟩|⟨_,_,rfl⟩|⟨_,_,i,g,rfl⟩|⟨_,_,rfl⟩|⟨_,t,rfl⟩|⟨_,_,_,rfl⟩
 .rcases c with⟨_,_,_,_,rfl,rfl⟩|⟨m,l,q,rfl,rfl⟩
  .exact h
  .intro k a;rcases List.mem_append.1 (Hf.1 a)with a|a
   .exact h k a
   .rw[List.mem_singleton]at a;subst a;exact EF _ _ _ f
 .exact h
 .exact h
 .exact h
 .exact h
 .exact h
 .exact fun k a=>h k (List.filter_sublist.subset a)
theorem Aad{c:List Kd}(h:Ms wd c):∀k∈c,∀s∈k.B,s≠⟨#[]⟩:=fun k f x g e=>by have a:=Be (h k f);obtain⟨i,d⟩:=List.getElem?_of_mem g;have:=a.size d;rw[e]at this;have j:=a.lo;have l:((⟨#[]⟩:Zi).size:Int)=0:=rfl;omega
def Hz(wd:Int)(s:Zi):Zi:=Ch 7 s ⟨#[]⟩ 0 ⟨#[]⟩ [] wd
def AW(v:Vd)(u:UR):Vd:=⟨v.wd,v.lim,v.ss,v.D++u.ds.map (Hz v.wd),v.S,v.E,v.F,v.C,u.A,v.ps,v.ls,u.L,u.G,u.ms,u.Q,u.P,u.ro⟩
def Jm(c:Int)(vs:Zj)(n:Int)(D:Value):Zj:=Zg c::(vs++[Zg n,D])
def z20(c:Int):Zj:=[Zg c,Ze,Ze,Zb,Zb,Ze,Ze,Ze,Ze,Zb,Zb,Zb,Ze,Zb,Zb,Ze,Ze,Ze,Ze,Zb]
theorem VV{a:Zj}(h:a.length=17):prog.built 169 [(1,.agg a.toArray)]=some (Jm 0 a 0 Zb).toArray:=by
 obtain⟨k,l,m,n,o,q,r,t,u,v,c,d,e,f,g,i,j,rfl⟩:=Iu h
 kernel_rfl
def Ep(v:Vd)(units:Int)(o:Option (UR×Nat)):Prop:=
 (¬(Cy v/\0<=units/\units<=10000)/\o=none)\/∃r,DM v r/\(0<=units/\units<=10000)/\ClTo v.C v.ps v.ls (4000 -(v.ss++v.D).length) units.toNat 0 (EH v) o
theorem Ep.de{a:Int}{d e:Option (UR×Nat)}(g:Ep v a d)(h:Ep v a e):d=e:=by
 rcases g with⟨i,rfl⟩|⟨j,c,k,f⟩<;>rcases h with⟨n2,rfl⟩|⟨r2,k2,u2,c2⟩
 .rfl
 .exact absurd ⟨⟨r2,k2⟩,u2⟩ i
 .exact absurd ⟨⟨j,c⟩,k⟩ n2
 .exact f.de (Kg c) c2
def SwA(v:Vd)(o:Option (UR×Nat))(lo:Nat)(w:Zh)(cs:Zj):Prop:=
 match o with
 |none=>cs=z20 1
 |some (u,n)=>∃S U T P L Q M rs D,cs=Jm 0 (Bm (AW v u) S U T P L Q M) n D/\AD w lo S U T P L Q M rs (AW v u)/\Aj w lo D u.ds/\∀g,Ai D=some g->g∉CV S U T P L Q M rs
structure Kh (w:Zh) (a:Va) (v:Vd):Prop where
 rows:CQ w w.heap.size a v
 s:a.X=none->v.ss.length=0/\a.sc=0
 t:a.V=none->v.D.length=0/\a.W=0
 q:Fg a.g v.G.length a.qc
 m:Fg a.i v.ms.length a.mc
 k:∀A,a.Y=some A->ND w A v.A
 p:a.O=none->a.U=0
 l:a.M=none->a.T=0
 ls:v.ss.length<=1048576
 lt:v.D.length<=1048576
 lq:v.G.length<=100000000
 lm:v.ms.length<=100000000
 nk:v.A.length<=600
 np:v.ps.length<=100
 nl:v.ls.length<=200
 dv:∀k∈v.A,k.B.length<=30
theorem Kh.below(h:Kh w a v)(d:Zz w w'):Kh w' a v:=
 ⟨h.rows.N d,h.s,h.t,h.q,h.m,(fun A e=>by have f:=h.k A e;have c:=h.rows.st.k;rw[e]at c;exact f.ag c d),h.p,h.l,h.ls,h.lt,h.lq,h.lm,h.nk,h.np,h.nl,h.dv⟩
theorem FP(v:Vd)(a:Va)(w:Zh)(h:Kh w a v):
 Calls prog 125 #[.agg (Bm v (.slice a.X v.ss.length a.sc) (.slice a.V v.D.length a.W) (.slice a.Y v.A.length a.j) (.slice a.O v.ps.length a.U) (.slice a.M v.ls.length a.T) (.slice a.g v.G.length a.qc) (.slice a.i v.ms.length a.mc)).toArray] w fun e w'=>∃(S U T P L Q M:Value) (rs:Zj),e=.returned (.agg (Bm v S U T P L Q M).toArray)/\AD w' w.heap.size S U T P L Q M rs v/\(∀u∈S::U::Q::M::T::P::L::rs,∃g n c,u=Yz g n c)/\Zz w w':=
 QA v a w (fun X d=>Nz _ _ _ _ v.ss v.D X (h.below d).rows.s (h.below d).rows.t h.s h.t h.ls h.lt) (fun X d=>JS _ _ _ _ _ _ _ _ _ _ v.A v.ps v.ls X (h.below d).rows.st (h.below d).k h.p h.l h.nk h.np h.nl h.dv) (fun X d=>Qr _ _ _ _ _ _ _ _ v.G v.ms X (h.below d).rows.q (h.below d).rows.m h.q h.m h.lq h.lm)
theorem AY.kcp{lo:Nat}{a:Zj}{e:List Kd}(h:AY X lo (.slice ta n tc) P L a e ps ls):∀A,ta=some A->ND X A e:=fun A r i k c rc j=>by
 subst r;have t:=(Zw c).1;have u:i<a.length:=by rw[h.len];exact t
 have l:=Zv u;have f:=h.B i k _ c l;have v:(e.zip a)[i]?=some (k,a[i]):=List.getElem?_zip_eq_some.2 ⟨c,l⟩;have m:=Cz Ko v (show 3<4 by decide);rcases h.ak.2 with⟨d,_⟩|⟨g,cap,x,d,_⟩
 .cases d
 cases d;have o:=h.ak.cellAt (i *4+3) Yv;rw[Nat.zero_add,o,m]at j;have q:a[i]=.slice none k.B.length rc:=by injection j
 rw[q]at f;exact EU f rfl
structure KR (w:Zh) (a:Va) (v:Vd):Prop where
 s:Fg a.X v.ss.length a.sc
 t:Fg a.V v.D.length a.W
 q:Fg a.g v.G.length a.qc
 m:Fg a.i v.ms.length a.mc
 k:∀A,a.Y=some A->ND w A v.A
 p:a.O=none->a.U=0
 l:a.M=none->a.T=0
 so:∃rs,AY w 0 (.slice a.Y v.A.length a.j) (.slice a.O v.ps.length a.U) (.slice a.M v.ls.length a.T) rs v.A v.ps v.ls
def Mt(v:Vd)(L:Nat)(X:Zh)(cs:Zj):Prop:=
 ∃a:Va,cs=Bm v (.slice a.X v.ss.length a.sc) (.slice a.V v.D.length a.W) (.slice a.Y v.A.length a.j) (.slice a.O v.ps.length a.U) (.slice a.M v.ls.length a.T) (.slice a.g v.G.length a.qc) (.slice a.i v.ms.length a.mc)/\CQ X L a v/\KR X a v
theorem Rb{j l q n d h f:Zk}{k r e i:Nat}(x:Aj X b1 (.slice j v.ss.length k) v.ss)(y:Aj X b2 (.slice l v.D.length m) v.D)(a:AY X b3 (.slice q v.A.length r) (.slice n v.ps.length o) (.slice d v.ls.length e) c v.A v.ps v.ls)(u:Aj X b4 (.slice h v.G.length i) v.G)(t:Aj X b5 (.slice f v.ms.length g) v.ms):
 Mt v X.heap.size X (Bm v (.slice j v.ss.length k) (.slice l v.D.length m) (.slice q v.A.length r) (.slice n v.ps.length o) (.slice d v.ls.length e) (.slice h v.G.length i) (.slice f v.ms.length g)):=
 ⟨⟨j,k,l,m,q,r,n,o,d,e,h,i,f,g⟩,rfl,⟨x.gq,y.gq,a.get,u.gq,t.gq⟩,⟨x.cap,y.cap,u.cap,t.cap,a.kcp,EU a.pins,EU a.aq,c,a.mono (Nat.zero_le _)⟩⟩
theorem AD.ja(h:AD X base S U T P L Q M c v):Mt v X.heap.size X (Bm v S U T P L Q M):=by obtain⟨s,u,a,q,m,_⟩:=h;obtain⟨o,r,rfl,d⟩:=s.row;obtain⟨t,x,rfl,e⟩:=u.row;obtain⟨ta,tc,pa,pc,la,lc,rfl,rfl,rfl,f⟩:=a.rows;obtain⟨l,n,rfl,g⟩:=q.row;obtain⟨j,k,rfl,i⟩:=m.row;exact Rb s u a q m
theorem AD.jb{c:Zh}{j:Zj}(h:AD c base S U T P L Q M j v)(l:n<=base)(e:Zz c X):∀V a,(∀b∈V,b<n)->Tn V X a->Mt v a.heap.size a (Bm v S U T P L Q M):=fun V a g f=>by refine(h.stays (((Tn.of (V:=[]) e).mono Yu).trans f) (fun b i d=> ?_)).ja;have k:=h.lo b d;have:=g b i;omega
theorem Aae{e:Ed}{o t z x i m k:Zk}{u A y:Nat}{c f:Zl}{H:Zj}(E:v.wd=v.S)(L:Aj X b1 (.slice o v.ss.length q) v.ss)(M:Aj X b2 (.slice t g u) c)(F:c=v.D++[e.cg v.wd])(G:g=c.length)(D:AY X b3 (.slice z r.A.length A) (.slice x r.ps.length y) (.slice i r.ls.length j) H r.A r.ps r.ls)(K:Aj X b4 (.slice m d n) f)(C:f=shQ v.L r.A v.G v.ms (e.held r))(B:d=f.length)(J:Aj X b5 (.slice k v.ms.length l) v.ms):
 Mt (doV v e r) X.heap.size X [Zg v.wd,Zg v.lim,.slice o v.ss.length q,.slice t g u,Zg v.wd,Zg r.E,Zg r.F,Zg r.C,.slice z r.A.length A,.slice x r.ps.length y,.slice i r.ls.length j,Zg v.L,.slice m d n,.slice k v.ms.length l,Zg v.Q,Zg v.P,Zg v.ro]:=by
 subst G B;subst F C;obtain⟨a,h,I⟩:=Rb (v:=doV v e r) (b1:=b1) (b2:=b2) (b3:=b3) (b4:=b4) (b5:=b5) L M D K J;refine⟨a,?_,I⟩;rw[<-h];unfold Bm doV;simp only[<-E]
def SDb(v:Vd)(e:Ed)(w:Zh)(o:Ending)(w':Zh):Prop:=
 ∃d vs,Gt v e d/\o=.returned (.agg (dL d vs).toArray)/\(∀V X',(∀b∈V,b<w.heap.size)->Tn V w' X'->Mt d.v X'.heap.size X' vs)/\Zz w w'
theorem Ki{e:Ed}{D:Zj}{d:Dd}(f:Aa X (w.heap.size+2) EX/\Zz w X)(m:∀V a,(∀b∈V,b<w.heap.size+3)->Tn V X a->Mt d.v a.heap.size a c)(l:Gt v e d)(q:c.length=17/\∀u∈c,u.oneCell'=true)(j:D=dL d c):
 (D.length=22/\∀u∈D,u.oneCell'=true)/\X.there (w.heap.size+2) 0 D.toArray.size/\Aa (X.setCells (w.heap.size+2) 0 D.toArray.toList) (w.heap.size+2) D/\SDb v e w (.returned (.agg D.toArray)) (X.setCells (w.heap.size+2) 0 D.toArray.toList):=by
 have g:D.length=22/\∀u∈D,u.oneCell'=true:=by rw[j];exact Ke q
 have k:=AI (w.heap.size+2) D 0 X;refine⟨g,?_,f.1.au D (by rw[g.1];rfl),d,c,l,by rw[j],fun V a o n=>m ((w.heap.size+2)::V) a (fun b i=> ?_) ((k.mono Yu).trans (n.mono (by simp;intro b i;exact .inr i))),f.2.trans (k.below f.2.size Yu)⟩
 .rw[show D.toArray.size=22 from by rw[List.size_toArray];exact g.1];exact f.1.there
 .rcases List.mem_cons.1 i with h|h
  .omega
  .have:=o b h;omega
theorem KR.cap(h:KR w a v):VJ a v:=⟨h.s.2,h.t.2,h.m.1⟩
theorem KR.below(h:KR w a v)(g:CQ w w.heap.size a v)(d:Zz w w'):KR w' a v:=
 ⟨h.s,h.t,h.q,h.m,(fun A e=>by have f:=h.k A e;have c:=g.st.k;rw[e]at c;exact f.ag c d),h.p,h.l,h.so.imp (fun _ h=>h.below d)⟩
theorem KR.cp(h:KR w a v)(g:CQ w w.heap.size a v)(c:Ge v)(i:Cy v):Kh w a v:=by
 obtain⟨r,e⟩:=i;have d:=Kg e;have j:v.A.length<=600:=by have:=d.dl;unfold EH at this;simp at this;omega
 exact⟨g,h.s.2,h.t.2,h.q,h.m,h.k,h.p,h.l,c.s,c.t,by have:=c.r.q;omega,by have:=c.r.m;omega,j,d.ok.pl,d.ok.ll,fun k f=>(d.ok.B k f).1⟩
def PN(ps:List Pd):Prop:=∀p∈ps,p.name.size<=40
theorem PN.step{j:List Kd}{f:Int}(h:PN ps)(g:Bw f s nm num text refs wd=true)(e:CN wd now given births j ps ls f s nm num text refs r):PN r.ps:=by
 have i:=(DR g).2.2.name;rcases e with⟨rfl,d,n,m,k,l,e,rfl⟩|⟨_,d,_,rfl⟩|⟨_,_,rfl⟩|⟨_,d,_,_,rfl⟩|⟨_,_,rfl⟩|⟨_,_,rfl⟩|⟨_,_,_,rfl⟩
 .exact h
 .intro p a;have c:p∈Bh ps nm s:=a;unfold Bh at c;rcases List.mem_append.1 c with a|a
  .rcases List.mem_append.1 a with a|a
   .exact h p (List.mem_filter.1 a).1
   .rw[List.mem_singleton.1 a];exact i
  .exact h p (List.mem_filter.1 a).1
 .exact fun p a=>h p (List.mem_filter.1 a).1
 .exact h
 .exact h
 .exact h
 .exact h
theorem BS.pn:∀{xs:Zl} {r r':Rs},BS wd r xs r'->PN r.ps->PN r'.ps
 |[],r,r',h,hr=>by obtain rfl:r'=r:=h;exact hr
 |x::xs,r,r',h,hr=>by obtain⟨d,a,c⟩:=h;exact BS.pn c (hr.step (DQ a.1).1 a.2)
theorem PL{f:List Kd}(c:FN wd now given births f ps ls)(e:RX wd births f ps ls)(h:PN ps)(q:wd<=8):Ji f ps ls:=by
 have j:=c.ai;have m:=c.bn.len;have n:=c.np;have o:=c.nl
 refine⟨⟨Yo,fun k a=>by have:=c.bn.sz k a;unfold maxLen;omega,fun k a=>by have:=c.cg k a;unfold maxLen;omega,fun k a=>by have:=c.dv k a;unfold maxLen;omega,fun k a s i=>by have:=e.rs k a s i;unfold maxLen;omega⟩,⟨Yo,fun p d=>by have:=h p d;unfold maxLen;omega,fun p d=>by have:=e.fw p d;unfold maxLen;omega⟩,⟨Yo,fun l g=>by have:=e.gu l g;unfold maxLen;omega⟩,fun k a=> ?_,Yv⟩
 have:=e.b1 k a;simp[Lit.wf,IntKind.min,IntKind.max,IntKind.signed,IntKind.bits];omega
theorem DM.jw(h:DM v r):RX v.wd v.C v.A v.ps v.ls/\PN v.ps:=by have d:RX v.wd r.C r.A r.ps r.ls:=h.run.rx (Du h.wd.1 h.wd.2) ⟨by simp[r0],by simp[r0],by simp[r0],by simp[r0],by simp[r0]⟩;have c:=h.run.pn (by intro p i;cases i);obtain⟨⟨_,_,_,e⟩,f,a,g⟩:=h.same;rw[e,f,a,g]at d;rw[a]at c;exact⟨d,c⟩
theorem ClTo.jx{free:Nat}{u:UR}{o:Option (UR×Nat)}(h:ClTo births ps ls free d n u o):ID wd births ps ls free u->∀p∈o,ID wd births ps ls free p.1:=by
 induction h with
 |fin n u h=>intro a p c;cases c;exact a
 |old n u h hr=>intro a p c;cases c
 |full n u r h hr ht hd hf=>intro a p c;cases c;exact a
 |long n u r h hr ht hl=>intro a p c;cases c
 |step n u r o h hr ht hq hm hf hs ih=>exact fun a=>ih (a.step ht hr hq hm hf)
theorem PM(wd:Int)(s:Zi):(Hz wd s).size<=5000:=by
 unfold Hz;by_cases h:Bw 7 s ⟨#[]⟩ 0 ⟨#[]⟩ [] wd=true
 .exact Ed.dw (e:=⟨7,s,⟨#[]⟩,0,⟨#[]⟩,[]⟩) h
 .unfold Ch;rw[if_neg h];exact Nat.zero_le _
end Go.Proofs.YtoglnpagihdhpaaGreatDoor
