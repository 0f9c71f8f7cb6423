import Derived.Test.YtdofmfnmackjhaaGreatDoorX26
import Derived.Test.YtdofmfnmackjhaaGreatDoorX29
set_option maxRecDepth 100000
set_option maxHeartbeats 16000000
namespace Go.Proofs.YtdofmfnmackjhaaGreatDoor
open ChangeShapes WideShapes ChangeAt RowKit _root_.Go.Proofs.Tryz List World Value
variable{w X:Zh}{k b f g d i a l t n o size m q b1 b2 b3 b4 b5:Nat}{j c e p:Zk}{s:Zi}{u:Dy}{r:Rs}{D:Zj}{E:Dv}{v:Vd}{T P L S U Q M:Value}
section
structure CT (w:Zh) (base b:Nat) (ta pa la:Zk) (pc lc:Nat) (zs:List (Kd×Value)) (ps:List Pd) (ls:List Ld):Prop where
 tb:ta=some ⟨b,0,none⟩\/zs=[]
 z:Bm w b 0 zs
 bl:b<w.1.size
 po:w.ownsRow base 71 2 (.slice pa ps.length pc) ps.length (Ab pC ps)
 lo:w.ownsRow base 73 3 (.slice la ls.length lc) ls.length (Ab lC ls)
 lb:base<=w.1.size
 bL:some b≠(Value.slice la ls.length lc).ownBlock
 pL:∀g,(Value.slice pa ps.length pc).ownBlock=some g->(Value.slice la ls.length lc).ownBlock≠some g
 zL:∀z∈zs,∀ad n rc,z.2=.slice (some ad) n rc->z.1.B≠[]->some ad.block≠(Value.slice la ls.length lc).ownBlock
 zb:zs=[]\/base<=b
 zr:∀z∈zs,∀ad n rc,z.2=.slice (some ad) n rc->z.1.B≠[]->base<=ad.block
def Kj(base:Nat)(L:Value)(wd now given births:Int)(ks:List Kd)(ps:List Pd)(ls:List Ld)(kd:Int)(s nm:Zi)(num:Int)(text:Zi)(refs:Zl)(w:Zh)(e:Ending)(w':Zh):Prop:=
 Tn L.ownBlock.toList w w'/\(
  (∃c a b,Ep wd now given births ks ps ls kd s nm num text refs c a b/\e=.returned (.agg (BE c a b).toArray))\/
  (∃r b1 ta1 tc1 zs1 pa1 pc1 la1 lc1,BP wd now given births ks ps ls kd s nm num text refs r/\e=.returned (.agg #[Ze,Zg wd,Zg r.D,Zg r.F,Zg r.C,.slice ta1 r.ks.length tc1,.slice pa1 r.ps.length pc1,.slice la1 r.ls.length lc1,.string r.j,Zg r.le,Zc,Zc])/\zs1.map (·.1)=r.ks/\CT w' base b1 ta1 pa1 la1 pc1 lc1 zs1 r.ps r.ls))
theorem CT.A{k:Zh}{base:Nat}{f:Zk}{l:List (Kd×Value)}{i:Dy}{e:Dv}(h:CT w base b j f c g d l i e)(a:Zz w k):CT k base b j f c g d l i e:=
 ⟨h.tb,h.z.A a h.bl,Zr h.bl a.size,Ah h.po a,Ah h.lo a,Zm h.lb a.size,h.bL,h.pL,h.zL,h.zb,h.zr⟩
theorem CT.dx{f:Zk}{d:List (Kd×Value)}{l:Dy}{i:Dv}(h:CT w a b c j f k g d l i):AW w w.1.size c (d.map (·.1)):=by
 rcases h.tb with e|e
 .rw[e];exact h.z.dx h.bl
 .rw[e];exact .inl rfl
theorem CT.ia{k:List (Kd×Value)}{d:Dy}{g:Dv}(h:CT w a b j c e i f k d g):AU w w.1.size c d:=AU.own h.po
theorem CT.gy{f:Zk}{e:Nat}{k:List (Kd×Value)}{i:Dy}{d:Dv}(h:CT w a b j f c g e k i d):AS w w.1.size c d:=AS.own h.lo
theorem CT.iq{k s:Zk}{l:List (Kd×Value)}{i:Dv}(h:CT w a b k s e t f l u i){c:Nat}{d:Dy}(j:w.ownsRow n 71 2 (Yz g d.length c) d.length (Ab pC d))(p:a<=n)(o:∀q,(C3 e i.length f).ownBlock=some q->q<n):CT w a b k (some ⟨g,0,none⟩) e c f l d i:=
 ⟨h.tb,h.z,h.bl,j.aj p,h.lo,h.lb,h.bL,λq r m=>by have v:=(Ac j r).1;have r:=o q m;omega,h.zL,h.zb,h.zr⟩
theorem CT.im{r i C:Zk}{j D:Nat}{o:List (Kd×Value)}{k:Dy}(h:CT w a b r i C j D o k E){c:Nat}{d:Dv}(p:w.ownsRow n 73 3 (Yz g d.length c) d.length (Ab lC d))(x:a<=n)(F:b<n)(y:∀q,(C3 i k.length j).ownBlock=some q->q<n)(B:∀z∈o,∀f m l,z.2=C3 (some f) m l->z.1.B≠[]->f.block<n):CT w a b r i (some ⟨g,0,none⟩) j c o k d:=by
 have G:=(Ac p (g:=g) rfl).1;refine⟨h.tb,h.z,h.bl,h.po,p.aj x,h.lb,λe=> ?_,λq A e=> ?_,λz s f m l t u e=> ?_,h.zb,h.zr⟩
 .have:b=g:=by simpa [ownBlock]using e
  omega
 .have v:g=q:=by simpa [ownBlock]using e
  have:=y q A;omega
 .have v:f.block=g:=by simpa [ownBlock]using e
  have:=B z s f m l t u;omega
theorem CT.dj{o g d:Zk}{e:Nat}{k:List (Kd×Value)}{j:Dy}{f:Dv}(h:CT w a b o g d i e k j f):(∀q,(C3 g j.length i).ownBlock=some q->q<w.1.size)/\(∀q,(C3 d f.length e).ownBlock=some q->q<w.1.size)/\∀z∈k,∀c m l,z.2=C3 (some c) m l->z.1.B≠[]->c.block<w.1.size:=
 ⟨λ_ c=>(Ac h.po c).2,λ_ c=>(Ac h.lo c).2,λ_ n _ _ _ c l=>h.z.cw n c l⟩
theorem CF{e:TypeId}{a:Zk}{c:Nat}{i:Zj}(h:w.ownsRow b e size (C3 a m c) n i)(f:a=none):c=0:=by
 rcases h.2 with⟨d,_⟩|⟨g,j,k,d,_⟩
 .injection d
 .injection d with e1;rw[f]at e1;cases e1
theorem Eg{c:Zh}{e:TypeId}{v:D4}{d:Zj}(h:w.ownsRow a e size v n d)(f:Tn [q] w c)(i:q<a):c.ownsRow a e size v n d:=
 As h (λg b=>f.block g (Ac h b).2 (by have:=(Ac h b).1;simp;omega))
theorem Od{w':Zh}{e:TypeId}{v:D4}{c:Zj}(h:w.ownsRow a e size v n c)(f:Tn [q] w w')(d:∀g,v.ownBlock=some g->g≠q):w'.ownsRow a e size v n c:=
 As h (λg b=>f.block g (Ac h b).2 (by simp;exact d g b))
theorem Cj{d a:Zh}(b:Zz w X)(c:Zz X d)(e:Tn [w.1.size+2] d a):Below w.1.size w a:=
 (b.ah (c.aj b.size)).ah (e.A (Zm b.size c.size) (by intro v f;simp at f;omega))
theorem OH(z f b a k g:Int)(i p l t:Zk)(y r q n m x u:Nat)(d:Dj)(s o c:Zi)(w:Zh)(B:AW w w.1.size i d)(zB:d.length<=1000)(C:¬Am d s):
 D8 71 #[.agg (Yg z f b a i d.length y p r q l n m),.agg (Yd k s o g c t x u)] w λe h=>e=C5 (.agg (BE 2 ⟨#[]⟩ ⟨#[]⟩).toArray)/\Zz w h:=by
 have⟨W,h⟩:=Ae (((w.alloc (.cells (Yg z f b a i d.length y p r q l n m) 27)).alloc (.cells (Yd k s o g c t x u) 32)).alloc (.cells Xz 36));have A:=(BI h).1;have F:=(BI h).2.2.1;have H:Aa W (w.1.size+1) (Yc k s o g c t x u):=by have j:=Aa.new (w.alloc (.cells (Yg z f b a i d.length y p r q l n m) 27)) (Yc k s o g c t x u) 32;rw[Al]at j;rw[h];exact Aa.A j (Zy)
 have G:Aa W (w.1.size+2) z12:=by have j:=Aa.new ((w.alloc (.cells (Yg z f b a i d.length y p r q l n m) 27)).alloc (.cells (Yd k s o g c t x u) 32)) z12 36;rw[Al,Al]at j;rw[h];exact j
 have D:=Yw (Dk z f b a i y (C3 p r q) (C3 l n m) d s W w.1.size (AW.A B A) A.size Yv);have zA:=IJ C;have E:=Yw h;have I:=Yw G;have⟨v0,K,L,M,N,O,P,Q⟩:=Be F;obtain⟨J,_⟩:=H 1 _ rfl;clear h F G H B C;go_enter func71,ntmps71;go_upto_region 1 with fail;rw[<-E.o];clear E;go_wp2_with fail;refine D.Ai ?_;rintro e F ⟨rfl,h⟩
 obtain⟨⟨G,q0⟩,⟨H,q1⟩,⟨R,q2⟩,⟨S,q3⟩,⟨T,q4⟩,⟨U,q5⟩,⟨V,q6⟩,⟨X,q7⟩,⟨Y,q8⟩,⟨Z,q9⟩,⟨C,zC⟩,E,zE⟩:=Bf (Aa.A (v:=Ze) I h);have B:=A.ah (h.aj A.size);generalize Cu d s=fi at *
 clear v0 K L M N O P Q D J;go_wp2;refine C0 (.agg (BE 2 ⟨#[]⟩ ⟨#[]⟩).toArray) (by simp[results,results71,go_sem,G,H,R,S,T,U,V,X,Y,Z,C,E,BE]) ?_;exact⟨rfl,B.ah (Tn.A (Bs F (w.1.size+2) _ _ _ _ _ _ _ _ _ _ _ _) B.size (by intro v D;simp at D;omega))⟩
theorem Rh{b:Dy}{n:Zi}(s:Zi)(h:¬∃x∈b,x.name=n):(Bh b n s).length=b.length+1:=by
 have c:∀(l:Dy),(¬∃x∈l,x.name=n)->(l.filter (λx=>less x.name n)).length+(l.filter (λx=> !(less x.name n)&& !decide (x.name=n))).length=l.length:=by
  intro l;induction l with
  |nil=>intro _;rfl
  |cons x l ih=>intro a;have d:x.name≠n:=λe=>a ⟨x,Yu,e⟩;have:=ih (λ⟨y,hy,e⟩=>a ⟨y,by simp[hy],e⟩);cases a:less x.name n<;>simp[a,d]<;>omega
 have:=c b h;unfold Bh;rw[Ak,Ak];simp;omega
def Acz(wd now given births num:Int)(zs:List (Kd×Value))(ps:List Pd)(ls:List Ld)(s:Zi)(X:Zh)(e:Ending)(w':Zh):Prop:=
 Below X.1.size X w'/\(((ls.length=200\/given=1000000000)/\e=.returned (.agg (BE 4 ⟨#[]⟩ ⟨#[]⟩).toArray))\/
  ((ls.length<200/\given<1000000000)/\∃b1 tc1 zs1 p1 pc1 g c,e=.returned (.agg #[Ze,Zg wd,Zg now,Zg (given+1),Zg births,.slice (some ⟨b1,0,none⟩) zs.length tc1,.slice (some ⟨p1,0,none⟩) ps.length pc1,.slice (some ⟨g,0,none⟩) (ls.length+1) c,Zc,Zg (given+1),Zc,Zc])/\zs1.map (·.1)=zs.map (·.1)/\w'.ownsRow X.1.size 68 4 (.slice (some ⟨b1,0,none⟩) zs1.length tc1) zs1.length (Ab kC zs1)/\(∀z∈zs1,∃g' c',z.2=.slice (some ⟨g',0,none⟩) z.1.B.length c'/\w'.ownsRow X.1.size 9 1 z.2 z.1.B.length (z.1.B.map Value.string))/\w'.ownsRow X.1.size 71 2 (.slice (some ⟨p1,0,none⟩) ps.length pc1) ps.length (Ab pC ps)/\w'.ownsRow X.1.size 73 3 (.slice (some ⟨g,0,none⟩) (ls.length+1) c) (ls++[(⟨given+1,s,now+num⟩:Ld)]).length (Ab lC (ls++[(⟨given+1,s,now+num⟩:Ld)]))/\b1≠g/\p1≠g/\∀z∈zs1,∀ad n rc,z.2=.slice (some ad) n rc->ad.block≠g))
theorem Bm.some{d:List (Kd×Value)}(h:Bm w b a d):Ig w ⟨b,a,none⟩ (d.map (·.1)):=by intro i k c;rw[getElem?_map]at c;obtain⟨z,j,rfl⟩:=Option.map_eq_some_iff.1 c;have⟨⟨_,_,_,f⟩,e,l,g,_⟩:=h i z j;exact⟨e,l,by rw[f,g]⟩
theorem Qj{T P L:Option Nat}{R:List Nat}(h:(T.toList++(P.toList++(L.toList++R))).Nodup)(a:L=some l):T≠some l/\P≠some l/\l∉R:=by subst a;cases T<;>cases P<;>simp_all<;>grind
theorem Wo(p:Nat)(x j d a:Int)(b:Nat)(v A n:Zk)(z B o:Nat)(l:List (Kd×Value))(m:Dy)(k:Dv)(s t i:Zi)(u:Int)(f:Zl)(G:Zk)(H:Nat)(w:Zh)(h:CT w p b v A n B o l m k)(K:GB x j d a (l.map (·.1)) m k 3 u i f):
 D8 30 #[.agg (Yg x j d a v l.length z A m.length B n k.length o),.agg (Yd 3 s t u i G f.length H)] w (Kj p (C3 n k.length o) x j d a (l.map (·.1)) m k 3 s t u i f w):=by
 refine DD 3 72 _ x j d a v A n l.length z m.length B k.length o s t i u G f.length H w [] (λX e E=>RJ X E e x j d a (C1 v l z) (C1 n k o) m t) _ (.inr (.inr (.inl ⟨rfl,rfl,rfl⟩))) Yu (λX r _=>Rc x j d a v n A l.length z k.length o B m t X (h.A r).ia (Dz K.np)) ?_ ?_
 .rintro X e E ⟨y,⟨_,rfl⟩|⟨_,g,c,rfl,_⟩⟩
  .exact⟨Tn.of y,_,_,_,_,_,_,_,_,_,_,_,_,_,_,_,_,_,_,rfl⟩
  .exact⟨Tn.of y,_,_,_,_,_,_,_,_,_,_,_,_,_,_,_,_,_,_,rfl⟩
 .rintro X e E O r P ⟨y,⟨I,rfl⟩|⟨C,g,c,rfl,M⟩⟩ D
  .exact⟨Tn.of (Cj r y D),.inl ⟨5,_,_,.inr ⟨rfl,rfl,.inr (.inl ⟨rfl,I,rfl⟩)⟩,rfl⟩⟩
  .have F:=Cj r y D;have L:=h.A F;have J:=Eg M D Yv;exact⟨Tn.of F,.inr ⟨⟨⟨#[]⟩,0,j,d,a,l.map (·.1),Bd m t,k⟩,b,v,z,l,_,c,n,o,.inr (.inr (.inl ⟨rfl,C,rfl⟩)),by rw[A9],rfl,L.iq J (Zm h.lb r.size) (λq N=>Zr (h.dj.2.1 q N) r.size)⟩⟩
theorem Wp(t:Nat)(y k f d:Int)(b:Nat)(x u B:Zk)(D v C:Nat)(o:List (Kd×Value))(r:Dy)(m:Dv)(s G j:Zi)(l:Int)(i:Zl)(K:Zk)(L:Nat)(w:Zh)(h:CT w t b x u B v C o r m)(Q:GB y k f d (o.map (·.1)) r m 5 l j i):
 D8 30 #[.agg (Yg y k f d x o.length D u r.length v B m.length C),.agg (Yd 5 s G l j K i.length L)] w (Kj t (C3 B m.length C) y k f d (o.map (·.1)) r m 5 s G l j i w):=by
 refine DD 5 74 _ y k f d x u B o.length D r.length v m.length C s G j l K i.length L w [] (λX e H=>UJ X H e y k f d (C1 x o D) (C1 u r v) m l) _ (.inr (.inr (.inr (.inl ⟨rfl,rfl,rfl⟩)))) Yu (λX p _=>Td y k f d x u B o.length D r.length v C m l X (h.A p).gy (Dz Q.nl)) ?_ ?_
 .rintro X e H ⟨A,⟨_,rfl⟩|⟨_,g,c,rfl,_⟩⟩
  .exact⟨Tn.of A,_,_,_,_,_,_,_,_,_,_,_,_,_,_,_,_,_,_,rfl⟩
  .exact⟨Tn.of A,_,_,_,_,_,_,_,_,_,_,_,_,_,_,_,_,_,_,rfl⟩
 .rintro X e H T p J ⟨A,⟨M,rfl⟩|⟨E,g,c,rfl,S⟩⟩ F
  .exact⟨Tn.of (Cj p A F),.inl ⟨5,_,_,.inr ⟨rfl,rfl,.inr (.inr (.inr (.inl ⟨rfl,M,rfl⟩)))⟩,rfl⟩⟩
  .have I:=Cj p A F;have R:=h.A I;have N:=Eg S F Yv;exact⟨Tn.of I,.inr ⟨⟨⟨#[]⟩,0,k,f,d,o.map (·.1),r,Bu m l⟩,b,x,D,o,u,v,_,c,.inr (.inr (.inr (.inr (.inl ⟨rfl,E,rfl⟩)))),by rw[A9],rfl,R.im N (Zm h.lb p.size) (Zr h.bl p.size) (λq O=>Zr (h.dj.1 q O) p.size) (λz J a n c O P=>Zr (h.dj.2.2 z J a n c O P) p.size)⟩⟩
theorem Wq(t:Nat)(y i f d:Int)(b:Nat)(x u C:Zk)(E v D:Nat)(o:List (Kd×Value))(r:Dy)(m:Dv)(s H l:Zi)(j:Int)(k:Zl)(L:Zk)(M:Nat)(w:Zh)(h:CT w t b x u C v D o r m)(A:GB y i f d (o.map (·.1)) r m 6 j l k):
 D8 30 #[.agg (Yg y i f d x o.length E u r.length v C m.length D),.agg (Yd 6 s H j l L k.length M)] w (Kj t (C3 C m.length D) y i f d (o.map (·.1)) r m 6 s H j l k w):=by
 refine DD 6 75 _ y i f d x u C o.length E r.length v m.length D s H l j L k.length M w [] (λX e I=>UK X I e y i f d (C1 x o E) (C1 u r v) m j) _ (.inr (.inr (.inr (.inr (.inl ⟨rfl,rfl,rfl⟩))))) Yu (λX p _=>Tg y i f d x u C o.length E r.length v D m j X (h.A p).gy (Dz A.nl) A.de A.ct A.gw A.gz) ?_ ?_
 .rintro X e I ⟨B,⟨_,rfl⟩|⟨_,g,c,rfl,_⟩⟩
  .exact⟨Tn.of B,_,_,_,_,_,_,_,_,_,_,_,_,_,_,_,_,_,_,rfl⟩
  .exact⟨Tn.of B,_,_,_,_,_,_,_,_,_,_,_,_,_,_,_,_,_,_,rfl⟩
 .rintro X e I T p K ⟨B,⟨N,rfl⟩|⟨F,g,c,rfl,S⟩⟩ G
  .exact⟨Tn.of (Cj p B G),.inl ⟨4,_,_,.inr ⟨rfl,rfl,.inr (.inr (.inr (.inr (.inl ⟨rfl,N,rfl⟩))))⟩,rfl⟩⟩
  .have J:=Cj p B G;have R:=h.A J;have O:=Eg S G Yv;exact⟨Tn.of J,.inr ⟨⟨⟨#[]⟩,0,i+j,f,d,o.map (·.1),r,AT m (i+j)⟩,b,x,E,o,u,v,_,c,.inr (.inr (.inr (.inr (.inr (.inl ⟨rfl,F,rfl⟩))))),by rw[A9],rfl,R.im O (Zm h.lb p.size) (Zr h.bl p.size) (λq P=>Zr (h.dj.1 q P) p.size) (λz K a n c P Q=>Zr (h.dj.2.2 z K a n c P Q) p.size)⟩⟩
theorem Ws(B:Nat)(y k d a:Int)(b:Nat)(v C t:Zk)(z D u:Nat)(l:List (Kd×Value))(j:Dy)(o:Dv)(s m i:Zi)(p:Int)(f:Zl)(I:Zk)(J:Nat)(w:Zh)(h:CT w B b v C t D u l j o)(G:GB y k d a (l.map (·.1)) j o 2 p i f):
 D8 30 #[.agg (Yg y k d a v l.length z C j.length D t o.length u),.agg (Yd 2 s m p i I f.length J)] w (Kj B (C3 t o.length u) y k d a (l.map (·.1)) j o 2 s m p i f w):=by
 have L:(l.map (·.1)).length<=1000:=Dz G.bt.len
 by_cases hth:Am (l.map (·.1)) s
 .refine DD 2 71 _ y k d a v C t l.length z j.length D o.length u s m i p I f.length J w [] (λX e A=>XD X A e y k d a (C1 v l z) (C1 t o u) j m s) _ (.inr (.inl ⟨rfl,rfl,rfl⟩)) Yu (λX n _=> ?_) ?_ ?_
  .have F:=UM y k d a 2 p v C t I z D u o.length f.length J (l.map (·.1)) j m s i X (h.A n).dx (h.A n).ia L (Dz G.np) hth G.cg;rw[A9]at F;exact F
  .rintro X e A ⟨r,⟨_,rfl⟩|⟨_,g,c,rfl,_⟩⟩
   .exact⟨Tn.of r,_,_,_,_,_,_,_,_,_,_,_,_,_,_,_,_,_,_,rfl⟩
   .exact⟨Tn.of r,_,_,_,_,_,_,_,_,_,_,_,_,_,_,_,_,_,_,rfl⟩
  .rintro X e A Q n U ⟨r,⟨V,rfl⟩|⟨R,g,c,rfl,T⟩⟩ H
   .have N:=Iy j m s;have O:¬∃x∈j,x.name=m:=λK=>by have:=N.2 K;have:=G.np;omega
    exact⟨Tn.of (Cj n r H),.inl ⟨4,_,_,.inr ⟨rfl,rfl,.inl ⟨rfl,.inr ⟨hth,O,by have:=N.1;have:=G.np;omega,rfl⟩⟩⟩,rfl⟩⟩
   .have M:=Cj n r H;have S:=h.A M;have P:=Eg T H Yv;have E:(∃x∈j,x.name=m)\/j.length<100:=by
     by_cases K:∃x∈j,x.name=m
     .exact .inl K
     .have:=Rh s K;exact .inr Yv
    exact⟨Tn.of M,.inr ⟨⟨⟨#[]⟩,0,k,d,a,l.map (·.1),Bh j m s,o⟩,b,v,z,l,_,c,t,u,.inr (.inl ⟨rfl,hth,E,rfl⟩),by rw[A9],rfl,S.iq P (Zm h.lb n.size) (λq K=>Zr (h.dj.2.1 q K) n.size)⟩⟩
 .refine DD 2 71 _ y k d a v C t l.length z j.length D o.length u s m i p I f.length J w [] (λX e A=>e=C5 (.agg (BE 2 ⟨#[]⟩ ⟨#[]⟩).toArray)/\Zz X A) _ (.inr (.inl ⟨rfl,rfl,rfl⟩)) Yu (λX n _=> ?_) ?_ ?_
  .have F:=OH y k d a 2 p v C t I z j.length D o.length u f.length J (l.map (·.1)) s m i X (h.A n).dx L hth;rw[A9]at F;exact F
  .rintro X e A ⟨rfl,r⟩;exact⟨Tn.of r,_,_,_,_,_,_,_,_,_,_,_,_,_,_,_,_,_,_,rfl⟩
  .rintro X e A Q n U ⟨rfl,r⟩ H;exact⟨Tn.of (Cj n r H),.inl ⟨2,_,_,.inr ⟨rfl,rfl,.inl ⟨rfl,.inl ⟨hth,rfl⟩⟩⟩,rfl⟩⟩
theorem Wt(M:Nat)(R j d f:Int)(b:Nat)(ta pa la:Zk)(tc pc lc:Nat)(m:List (Kd×Value))(I:Dy)(r:Dv)(s nm E:Zi)(o:Int)(D:Zl)(ra:Zk)(rc:Nat)(w:Zh)(h:CT w M b ta pa la pc lc m I r)(u:GB R j d f (m.map (·.1)) I r 4 o E D)(zO:∀k∈m.map (·.1),k.B.length<=30):
 D8 30 #[.agg (Yg R j d f ta m.length tc pa I.length pc la r.length lc),.agg (Yd 4 s nm o E ra D.length rc)] w (Kj M (C3 la r.length lc) R j d f (m.map (·.1)) I r 4 s nm o E D w):=by
 have zR:(m.map (·.1)).length<=600:=u.bt.len;refine OE R j d f ta pa la m.length tc I.length pc r.length lc s nm E o ra D.length rc w (Cu (m.map (·.1)) s) (Acz R j d f o m I r s) _ (λX G=> ?_) (λh0 X G C=> ?_) ?_ ?_ ?_
 .have h1:=Dk R j d f ta tc (C3 pa I.length pc) (C3 la r.length lc) (m.map (·.1)) s X X.1.size (h.A G).dx (Zx) Yv;rw[A9]at h1;exact h1
 .have F:=h.A G;have h1:=IV R j d f ta pa la tc pc lc (m.map (·.1)) I r X ⟨F.dx,F.ia,F.gy⟩ (λA p=>by
   rcases F.tb with e|e
   .rw[e]at p;cases p;exact F.z.some
   .rw[e];intro i k hk;simp at hk) (CF F.po) (CF F.lo) zR u.np u.nl zO
  rw[A9]at h1;refine h1.aj ?_;rintro e w' ⟨T,P',L',rs,rfl,p,V,x⟩;obtain⟨N,n1,U,rfl⟩:=V T Yu;obtain⟨Z,n2,S,rfl⟩:=V P' Yu;obtain⟨W,n3,zW,rfl⟩:=V L' Yu;have⟨_,_,y⟩:=Aq p.ak;have⟨_,_,P⟩:=Aq p.pins;have⟨_,_,e3⟩:=Aq p.au;cases y;cases P;cases e3;refine⟨⟨_,_,_,_,_,_,_,_,_,rfl,λY L=> ?_⟩,x⟩
  refine(Ix R j d f (some ⟨N,0,none⟩) (some ⟨Z,0,none⟩) (some ⟨W,0,none⟩) _ U I.length S zW X.1.size r s o Y (Ah p.au L) (Zm x.size L.size) (Dz u.nl) u.br u.bh u.de u.ct u.gw u.gz).aj ?_;rintro e w3 ⟨H,zE⟩;have zZ:X.1.size<=W:=(Ac p.au rfl).1;have zP:Below X.1.size X w3:=(x.ah (L.aj x.size)).ah (H.A (Zm x.size L.size) (by intro v V;simp[ownBlock]at V;omega))
  refine⟨zP,?_⟩;rcases zE with⟨J,rfl⟩|⟨⟨zC,Y⟩,g,c,rfl,ho,zB⟩
  .exact .inl ⟨by have:=u.nl;have:=u.bh;omega,rfl⟩
  .have zF:=p.nd;rw[Fo]at zF;unfold BX at zF;obtain⟨n1,n2,n3⟩:=Qj zF (l:=W) rfl;have t:∀{e:TypeId} {size:Nat} {v:D4} {n:Nat} {xs:Zj},w'.ownsRow X.1.size e size v n xs->v.ownBlock≠some W->w3.ownsRow X.1.size e size v n xs:=λ{e size v n xs} ho1 hne=>As (Ah ho1 L) (λq hq=>H.block q (Ac (Ah ho1 L) hq).2 (λe=>by simp[ownBlock]at e;exact hne (by rw[hq,e])))
   have hlen:((m.map (·.1)).zip rs).length=m.length:=by rw[length_zip,p.len,A9];omega
   refine .inr ⟨⟨zC,Y⟩,N,U,(m.map (·.1)).zip rs,Z,S,g,c,Yu,?_,?_,?_,t p.pins n2,ho,?_,?_,?_⟩
   .rw[map_fst_zip (by rw[p.len];exact Zx)]
   .have h2:=t p.ak n1;rw[hlen];rw[A9]at h2;exact h2
   .intro z C;have⟨i,B⟩:=A5 C;rw[getElem?_zip_eq_some]at B;have hr:=p.B i z.1 z.2 B.1 B.2;obtain⟨K,n',A,O⟩:=V z.2 (by simp;exact .inr (.inr (.inr (Zs B.2))));have⟨a',zY,zJ⟩:=Aq hr;rw[O]at zJ;cases zJ;refine⟨K,A,O,t hr (λe=>n3 ?_)⟩;exact mem_filterMap.2 ⟨z.2,Zs B.2,e⟩
   .have q1:=(Ac p.ak (g:=N) rfl).2;have q2:=L.size;rcases zB with Q|Q
    .have y:W=g:=by simpa [ownBlock]using Q
     intro e;exact n1 (by simp[ownBlock];omega)
    .omega
   .have q1:=(Ac p.pins (g:=Z) rfl).2;have q2:=L.size;rcases zB with Q|Q
    .have y:W=g:=by simpa [ownBlock]using Q
     intro e;exact n2 (by simp[ownBlock];omega)
    .omega
   .intro z C a n' A P;have⟨i,B⟩:=A5 C;rw[getElem?_zip_eq_some]at B;have hr:=p.B i z.1 z.2 B.1 B.2;obtain⟨K,m',d',e3⟩:=V z.2 (by simp;exact .inr (.inr (.inr (Zs B.2))));rw[e3]at P;cases P;have q1:=(Ac hr (g:=K) (by rw[e3];rfl)).2;have q2:=L.size;show K≠g;rcases zB with Q|Q
    .have y:W=g:=by simpa [ownBlock]using Q
     intro e;exact n3 (mem_filterMap.2 ⟨z.2,Zs B.2,by rw[e3];simp[ownBlock];omega⟩)
    .omega
 .rintro X e w' G ⟨x,⟨_,rfl⟩|⟨_,N,U,zG,Z,S,g,c,rfl,_⟩⟩
  .exact⟨x,_,_,_,_,_,_,_,_,_,_,_,_,_,_,_,_,_,_,rfl⟩
  .exact⟨x,_,_,_,_,_,_,_,_,_,_,_,_,_,_,_,_,_,_,rfl⟩
 .intro zX w' x;have L:¬Am (m.map (·.1)) s:=λH=>by have⟨i,k,e,_⟩:=Nf H;omega
  exact⟨Tn.of x,.inl ⟨2,_,_,.inr ⟨rfl,rfl,.inr (.inr (.inl ⟨rfl,.inl ⟨L,rfl⟩⟩))⟩,rfl⟩⟩
 .rintro h0 X e w' zN G C ⟨x,hQ⟩ H;have L:Am (m.map (·.1)) s:=Classical.byContradiction λhn=>Dz (IJ hn)
  have hB:=Cj G x H;rcases hQ with⟨J,rfl⟩|⟨⟨zC,Y⟩,N,U,zG,Z,S,g,c,rfl,hm,hk,zM,zT,zE,zH,zI,zU⟩
  .exact⟨Tn.of hB,.inl ⟨4,_,_,.inr ⟨rfl,rfl,.inr (.inr (.inl ⟨rfl,.inr ⟨L,J,rfl⟩⟩))⟩,rfl⟩⟩
  .have zA:=Eg hk H Yv;have zS:=Eg zT H Yv;have zK:=Eg zE H Yv;have zV:Bm zN N 0 zG:=Bm.own zA (λz C=>by
    have⟨K,A,O,ho⟩:=zM z C;rw[O]at ho;exact⟨⟨K,0,none⟩,A,O,Af.own (Eg ho H Yv)⟩)
   refine⟨Tn.of hB,.inr ⟨⟨⟨#[]⟩,d+1,j,d+1,f,m.map (·.1),I,r++[⟨d+1,s,j+o⟩]⟩,N,some ⟨N,0,none⟩,U,zG,some ⟨Z,0,none⟩,S,some ⟨g,0,none⟩,c,.inr (.inr (.inr (.inl ⟨rfl,L,zC,Y,rfl⟩))),Yu,hm,⟨.inl rfl,zV,(Ac zA rfl).2,zS.aj (Zm h.lb G.size),?_,Zm h.lb hB.size,by simp[ownBlock];exact zH,λq hq e=> ?_,λz C a n c y _ e=> ?_,.inr (Zm (Zm h.lb G.size) (Ac zA rfl).1),λz C a n c y _=> ?_⟩⟩⟩
   .have h4:zN.ownsRow X.1.size 73 3 (Yz g (r++[(⟨d+1,s,j+o⟩:Ld)]).length c) (r++[(⟨d+1,s,j+o⟩:Ld)]).length (Ab lC (r++[(⟨d+1,s,j+o⟩:Ld)])):=by rw[Ak]at zK |-;exact zK
    exact h4.aj (Zm h.lb G.size)
   .have y:Z=q:=by simpa [ownBlock]using hq
    have P:g=q:=by simpa [ownBlock]using e
    exact zI (y.ah P.symm)
   .have P:a.block=g:=by simpa [ownBlock]using e
    exact zU z C a n c y P
   .obtain⟨K,A,O,n⟩:=zM z C;rw[O]at y;cases y;have q1:=(Ac n (g:=K) (by rw[O];rfl)).1;have q2:=h.lb;have q:=G.size;show M<=K;omega
theorem Wu(D:Nat)(A m f d:Int)(b:Nat)(H x t:Zk)(I y v:Nat)(i:List (Kd×Value))(p:Dy)(o:Dv)(s L k:Zi)(B:Int)(j:Zl)(O:Zk)(P:Nat)(w:Zh)(h:CT w D b H x t y v i p o)(K:GB A m f d (i.map (·.1)) p o 7 B k j):
 D8 30 #[.agg (Yg A m f d H i.length I x p.length y t o.length v),.agg (Yd 7 s L B k O j.length P)] w (Kj D (C3 t o.length v) A m f d (i.map (·.1)) p o 7 s L B k j w):=by
 have R:=K.bt.len;have T:i.length<=600:=by rwa[A9]at R
 by_cases hth:Am (i.map (·.1)) s
 .obtain rfl:H=some ⟨b,0,none⟩:=h.tb.resolve_right (λe=>by obtain⟨u,hu,_⟩:=hth;rw[e]at hu;simp at hu)
  refine DD 7 76 _ A m f d (some ⟨b,0,none⟩) x t i.length I p.length y o.length v s L k B O j.length P w [] (λX e C=>RG X C e A m f d (C1 x p y) (C1 t o v) i p o s) _ (.inr (.inr (.inr (.inr (.inr (⟨rfl,rfl,rfl⟩)))))) Yu (λX l _=>Mq A m f d b 0 I y v x t i p o s X (h.A l).z (h.A l).bl (h.A l).ia (h.A l).gy T K.np K.nl (λz r=>(K.bt.B z.1 (mem_map.2 ⟨z,r,rfl⟩)).1) hth) ?_ ?_
  .rintro X e C ⟨q,⟨_,rfl⟩|⟨_,g,c,rfl,_⟩⟩
   .exact⟨Tn.of q,_,_,_,_,_,_,_,_,_,_,_,_,_,_,_,_,_,_,rfl⟩
   .exact⟨Tn.of q,_,_,_,_,_,_,_,_,_,_,_,_,_,_,_,_,_,_,rfl⟩
  .rintro X e C V l r ⟨q,⟨M,rfl⟩|⟨G,g,c,rfl,U,Z,N⟩⟩ F
   .exact⟨Tn.of (Cj l q F),.inl ⟨6,_,_,.inr ⟨rfl,rfl,.inr (.inr (.inr (.inr (.inr ⟨rfl,.inr ⟨hth,M,rfl⟩⟩))))⟩,rfl⟩⟩
   .have Q:=Cj l q F;have E:=h.A Q;have S:=U.K F N Yt (λz r a n c W Y J=>by
     simp at J;have:=h.z.cw (Bb.1 r).1 W Y;omega)
    exact⟨Tn.of Q,.inr ⟨⟨⟨#[]⟩,0,m,f,d,CJ (i.map (·.1)) s,p,o⟩,g,_,c,BK i s,x,y,t,v,.inr (.inr (.inr (.inr (.inr (.inr ⟨rfl,hth,G,rfl⟩))))),by simp[<-JY],JY i s,⟨.inl rfl,S,Zr N F.size,E.po,E.lo,E.lb,λe=>by have J:=h.dj.2.1 g e.symm;have W:=l.size;omega,E.pL,λz r=>E.zL z (Bb.1 r).1,.inr (by have J:=h.lb;have W:=l.size;omega),λz r=>E.zr z (Bb.1 r).1⟩⟩⟩
 .refine DD 7 76 _ A m f d H x t i.length I p.length y o.length v s L k B O j.length P w [] (λX e C=>e=C5 (.agg (BE 2 ⟨#[]⟩ ⟨#[]⟩).toArray)/\Zz X C) _ (.inr (.inr (.inr (.inr (.inr (⟨rfl,rfl,rfl⟩)))))) Yu (λX l _=> ?_) ?_ ?_
  .have J:=Ng A m f d H x t I p.length y o.length v (i.map (·.1)) s X (h.A l).dx Yv hth;rw[A9]at J;exact J
  .rintro X e C ⟨rfl,q⟩;exact⟨Tn.of q,_,_,_,_,_,_,_,_,_,_,_,_,_,_,_,_,_,_,rfl⟩
  .rintro X e C V l r ⟨rfl,q⟩ F;exact⟨Tn.of (Cj l q F),.inl ⟨2,_,_,.inr ⟨rfl,rfl,.inr (.inr (.inr (.inr (.inr ⟨rfl,.inl ⟨hth,rfl⟩⟩))))⟩,rfl⟩⟩
theorem Wv(p:Nat)(t k d i:Int)(b:Nat)(P H D:Zk)(tc I E:Nat)(F:List (Kd×Value))(B:Dy)(o:Dv)(s N j:Zi)(l:Int)(f:Zl)(K:Zk)(O:Nat)(w:Zh)(h:CT w p b P H D I E F B o)(m:GB t k d i (F.map (·.1)) B o 1 l j f)(hr:Af w w.1.size K f)(zJ:K=none->f.length=0/\O=0):
 D8 30 #[.agg (Yg t k d i P F.length tc H B.length I D o.length E),.agg (Yd 1 s N l j K f.length O)] w (Kj p (C3 D o.length E) t k d i (F.map (·.1)) B o 1 s N l j f w):=by
 refine DD 1 70 _ t k d i P H D F.length tc B.length I o.length E s N j l K f.length O w (C3 D o.length E).ownBlock.toList (λX e w'=>Tk p b t k d i l F (C3 H B.length I) (C3 D o.length E) o j f X e w') _ (.inl ⟨rfl,rfl,rfl⟩) (λq r=>h.dj.2.1 q (D2 r)) (λX u _=>UO p t k d i 1 l P b tc F H D B.length I E o s N j f K O X ⟨h.tb,zJ,(h.A u).z,(h.A u).bl,Ah h.lo u,Zm h.lb u.size,h.bL,h.zL,Af.aj (Af.A hr u) u.size,m.bt,m.w1,λz A=>m.cz z.1 (mem_map.2 ⟨z,A,rfl⟩),m.jt,m.kj,m.az,m.ai,m.br,m.bh,m.de,m.ct,m.gw,m.gz,m.nl⟩) ?_ ?_
 .rintro X e w' ⟨y,⟨c,a,b',_,rfl⟩|⟨M,ai,g,gc,Z,C,c2,_,_,_,_,rfl,_⟩⟩
  .exact⟨y,_,_,_,_,_,_,_,_,_,_,_,_,_,_,_,_,_,_,rfl⟩
  .exact⟨y,_,_,_,_,_,_,_,_,_,_,_,_,_,_,_,_,_,_,rfl⟩
 .rintro X e w' zR u A ⟨zK,hQ⟩ y;have G:=zK;have hB:=Tn.fresh ((Tn.of u).ah G) y Yv;rcases hQ with⟨c,a,b',zH,rfl⟩|⟨M,ai,g,gc,Z,C,c2,Q,R,zF,zB,rfl,hm,zO,S,T,Y,U,ho,zE,zN⟩
  .exact⟨hB,.inl ⟨c,a,b',.inl ⟨rfl,zH⟩,rfl⟩⟩
  .have zC:g≠w.1.size+2:=by have:=h.bl;rcases T with⟨e,_⟩|e<;>omega
   have zM:=zO.K y S (by simp;exact zC) (λz A a n c x e3 v=>by
    simp at v;rcases Y z A with L|⟨zA,n',zP,J,zG⟩
    .have:=h.z.cw L x e3;omega
    .rw[x]at J;cases J;omega)
   have zT:C≠w.1.size+2:=by
    rcases U with e|e
    .have:=h.dj.2.1 C e;omega
    .omega
   have V:=Od ho y (by intro q r;have:C=q:=by simpa [ownBlock]using r
                       omega)
   have W:=Ah h.po u;have zI:=Od (As W (w':=w') (λq r=>G.block q (Ac W r).2 (λe=>h.pL q r (D2 e)))) y (by intro q r;have:=h.dj.1 q r;omega);have zS:=u.size;have h4:zR.ownsRow p 73 3 (Yz C (o++[(⟨d+1,AX j f t,k+l⟩:Ld)]).length c2) (o++[(⟨d+1,AX j f t,k+l⟩:Ld)]).length (Ab lC (o++[(⟨d+1,AX j f t,k+l⟩:Ld)])):=by rw[Ak]at V |-;exact V
   refine⟨hB,.inr ⟨⟨AX j f t,d+1,k,d+1,ai,M,B,o++[⟨d+1,AX j f t,k+l⟩]⟩,g,_,gc,Z,H,I,_,c2,.inl ⟨rfl,Q,zF,zB,M,ai,R,rfl⟩,by simp[<-hm],hm,⟨.inl rfl,zM,Zr S y.size,zI,h4,Zm h.lb hB.size,by simp[ownBlock];exact zE,λq r e=> ?_,λz A a n c v x e=> ?_,?_,λz A a n c v x=> ?_⟩⟩⟩
   .have v:C=q:=by simpa [ownBlock]using e
    have:=h.dj.1 q r;rcases U with hk|hk
    .exact h.pL q r (by rw[hk,v])
    .omega
   .have e3:a.block=C:=by simpa [ownBlock]using e
    exact zN z A a n c v x e3
   .rcases T with⟨v,x⟩|v
    .rw[v,x];exact h.zb
    .exact .inr (Dz h.lb)
   .rcases Y z A with L|⟨zA,n',zP,J,zG⟩
    .exact h.zr z L a n c v x
    .rw[v]at J;cases J;have:=h.lb;omega
theorem Iz(f:Nat)(r g c a:Int)(b:Nat)(z v o:Zk)(A x p:Nat)(l:List (Kd×Value))(m:Dy)(j:Dv)(s u e:Zi)(i:Int)(d:Zl)(q:Zk)(y:Nat)(w:Zh)(n:Int)(h:CT w f b z v o x p l m j)(t:GB r g c a (l.map (·.1)) m j n i e d)(B:∀k∈l.map (·.1),k.B.length<=30)(D:Af w w.1.size q d)(C:q=none->d.length=0/\y=0):
 D8 30 #[.agg (Yg r g c a z l.length A v m.length x o j.length p),.agg (Yd n s u i e q d.length y)] w (Kj f (C3 o j.length p) r g c a (l.map (·.1)) m j n s u i e d w):=by
 obtain rfl|rfl|rfl|rfl|rfl|rfl|rfl:n=1\/n=2\/n=3\/n=4\/n=5\/n=6\/n=7:=by have:=t.jz;have:=t.jx;omega
 .exact Wv f r g c a b z v o A x p l m j s u e i d q y w h t D C
 .exact Ws f r g c a b z v o A x p l m j s u e i d q y w h t
 .exact Wo f r g c a b z v o A x p l m j s u e i d q y w h t
 .exact Wt f r g c a b z v o A x p l m j s u e i d q y w h t B
 .exact Wp f r g c a b z v o A x p l m j s u e i d q y w h t
 .exact Wq f r g c a b z v o A x p l m j s u e i d q y w h t
 .exact Wu f r g c a b z v o A x p l m j s u e i d q y w h t
end
theorem Ww{d:Zk}{a:Zl}(h:w.ownsRow b 9 1 (C3 d a.length i) a.length (a.map string)):Af w w.1.size d a/\(d=none->a.length=0/\i=0):=by
 rcases h.2 with⟨c,f⟩|⟨g,k,l,c,_,_,j,_⟩
 .injection c with e1 e2 e3;subst e1;exact⟨.inl (Bl f),λ_=>⟨f,e3⟩⟩
 .cases c;exact⟨Af.own h,λe=>by cases e⟩
theorem CT.low{m:Zh}{y t:Zk}{u r:Nat}{A:List (Kd×Value)}{x:Dy}{s:Dv}(h:CT w d b y t p u r A x s){V:List Nat}(j:Tn V w m)(k:∀q∈V,q<d):CT m d b y t p u r A x s:=by
 have o:∀{e:TypeId} {size:Nat} {v:D4} {n:Nat} {xs:Zj},w.ownsRow d e size v n xs->m.ownsRow d e size v n xs:=λh=>As h (λg f=>j.block g (Ac h f).2 (λe=>by have D:=k g e;have E:=(Ac h f).1;omega));refine⟨h.tb,?_,Zr h.bl j.size,o h.po,o h.lo,Zm h.lb j.size,h.bL,h.pL,h.zL,h.zb,h.zr⟩;rcases h.zb with e|e
 .rw[e];intro i z l;simp at l
 .exact h.z.K j h.bl (λf=>Dz (k b f)) (λz l a n c B C f=>by have D:=k _ f;have E:=h.zr z l a n c B C;omega)
theorem Aca{j k l m n o p:D4}(h:Aa w b [j,k,l,m,n,o,p])(a c d e f g i:D4):Aa (((((((w.setCell (Zd b 0) a).setCell (Zd b 1) c).setCell (Zd b 2) d).setCell (Zd b 3) e).setCell (Zd b 4) f).setCell (Zd b 5) g).setCell (Zd b 6) i) b [a,c,d,e,f,g,i]:=
 ((((((h.set 0 a).set 1 c).set 2 d).set 3 e).set 4 f).set 5 g).set 6 i
theorem tn7(w:Zh)(R:Nat)(a b c d e f g:D4):Tn [R] w (((((((w.setCell (Zd R 0) a).setCell (Zd R 1) b).setCell (Zd R 2) c).setCell (Zd R 3) d).setCell (Zd R 4) e).setCell (Zd R 5) f).setCell (Zd R 6) g):=
 ((((((AP _ _ _ _).ah (AP _ _ _ _)).ah (AP _ _ _ _)).ah (AP _ _ _ _)).ah (AP _ _ _ _)).ah (AP _ _ _ _)).ah (AP _ _ _ _)
theorem KX(d:Int)(a:Zk)(yE:Nat)(g:Zl)(w:Zh)(j:Af w w.1.size a g)(hl:g.length<=1048576)(hs:∀s∈g,s.size<=1048576):
 D8 104 #[Zg d,C3 a g.length yE] w (Acs d g w):=by
 have⟨W,l⟩:=D6 w Xz 36;have Y:=(AE l).1;have zW:=(AE l).2.1;have xW:=(AE l).2.2;have HW:=Yw l;have f:=Fy d W;have⟨⟨E,q0⟩,⟨F,q1⟩,⟨G,q2⟩,⟨H,q3⟩,⟨I,q4⟩,⟨J,q5⟩,⟨K,q6⟩,⟨L,q7⟩,⟨M,q8⟩,⟨N,q9⟩,⟨p,zB⟩,t,zC⟩:=Bf xW;clear l;by_cases hwd:1<=d/\d<=8
 .rw[decide_eq_true hwd]at f;by_cases hlen:g.length<=4000
  .have yF:decide ((4000:Int)<g.length)=false:=Yt
   have⟨A,l⟩:=D6 W #[Zg d,Ze,Ze,Ze,Zb,Zb,Zb] 27;have n:=(AE l).1;have zA:A.1.size=w.1.size+2:=by rw[l];simp;omega
   have x:Aa A (w.1.size+1) [Zg d,Ze,Ze,Ze,Zb,Zb,Zb]:=by rw[l,<-zW];exact Aa.new W _ _
   have y:=Aa.A (v:=Ze) xW n;have yD:=Y.ah (n.aj Y.size);have P:CT A (w.1.size+2) w.1.size none none none 0 0 [] [] []:=⟨.inr rfl,λi z m=>by simp at m,Yv,⟨rfl,.inl ⟨rfl,rfl⟩⟩,⟨rfl,.inl ⟨rfl,rfl⟩⟩,Yv,by simp[ownBlock],λq c=>by simp[ownBlock]at c,λz m=>by simp at m,.inl rfl,λz m=>by simp at m⟩;have u:=Yw f;have o:=Yw l
   have m:=Yw (Zn x (Zn y (Zn P yD)));have zF:Hid (Af w w.1.size a g):=j;clear f l x y P n j;go_enter func104,ntmps104;go_wp2_with fail;rw[<-HW.o];refine u.Ai ?_;rintro e w1 ⟨rfl,l⟩;replace l:=l.symm;subst l;clear u;go_upto_region 4 with fail;rw[<-o.o];clear o E F G H I J K L M N p t q0 q1 q2 q3 q4 q5 q6 q7 q8 q9 zB zC;go_wp2
   go_loopw [6] (λi wr=>∃(k:Nat) (r:Rs) (b:Nat) (ta pa Z:Zk) (tc pc z:Nat) (R:List (Kd×Value)),k<=g.length/\i=Zg k/\Hid (Aa wr (w.1.size+1) (Yh d r.D r.F r.C ta R.length tc pa r.ps.length pc Z r.ls.length z)/\Aa wr w.1.size z12/\CT wr (w.1.size+2) b ta pa Z pc z R r.ps r.ls/\R.map (·.1)=r.ks/\CZ d r0 (g.take k) r/\Zz w wr)) (λi _=>g.length -(intOf i).toNat)
   case atStart=>exact⟨0,r0,w.1.size,none,none,none,0,0,0,[],Az _,rfl,⟨m.1,m.2.1,m.2.2.1,rfl,rfl,m.2.2.2⟩⟩
   case round=>
    clear m;obtain⟨k,r,b,ta,pa,Z,tc,pc,z,R,hk,rfl,f⟩:=hrel;have⟨zO,zP,P,m,j,n⟩:=f.o;by_cases hlt:k<g.length
    .obtain⟨rb,yL,ha,yO,o⟩:=((zF.A n).aj n.size).at hlt;subst ha;have HG:=Yw (Zv hlt);have yG:=hs _ (getElem_mem hlt);have h:=o k _ HG;have yB:=Yw (Zu hlt);clear o;generalize g[k]=s at *
     have x:=Yw (SL s d wr yG);clear zO zP P m j n;go_wp2_with fail;refine x.Ai ?_;rintro e w2 ⟨v,rfl,zM,zK⟩;obtain⟨ra,rc,rfl⟩:=Aq zM;have⟨w3,o⟩:=D6 w2 (Yd ((Bo s d).k) ((Bo s d).sum) ((Bo s d).name) ((Bo s d).n) ((Bo s d).t) ra ((Bo s d).ss.length) rc) 32;have zJ:=(AE o).1;have b3:=zK.ah (zJ.aj zK.size);have U:=(AE o).2.2;have Q:=Aa.A f.1 b3
     have S:=Aa.A (v:=Ze) f.2.1 b3;have y:=f.2.2.1.A b3;have O:=Yw (f.2.2.2.2.2.ah (b3.aj f.2.2.2.2.2.size));have C:=Ww (Ah zM zJ);have D:=Yw o;have yN:(k:Int)<=4000:=Yv
     clear o x;cases hok:(Bo s d).ok with
     |false=>
      have⟨⟨E,q0⟩,⟨F,q1⟩,⟨G,q2⟩,⟨H,q3⟩,⟨I,q4⟩,⟨J,q5⟩,⟨K,q6⟩,⟨L,q7⟩,⟨M,q8⟩,⟨N,q9⟩,⟨p,zB⟩,t,zC⟩:=Bf S;clear U Q y C h S;go_upto_region 8 with fail;rw[<-D.o];go_wp2;refine C0 (.agg #[Zg 7,Ze,Ze,Ze,Ze,Zb,Zb,Zb,Zc,Zg ((k:Int)+1),Zc,Zc]) (by simp[results,results104,go_sem,E,F,G,H,I,J,K,L,M,N,p,t]) ?_
      exact⟨⟨7,0,0,0,0,((k+1:Nat):Int),⟨#[]⟩,⟨#[]⟩,⟨#[]⟩,[],[],[]⟩,_,_,_,[],.inr ⟨⟨hwd,hlen⟩,.inl ⟨k+1,⟨k,r,s,rfl,HG,f.2.2.2.2.1,.inl hok⟩,rfl⟩⟩,rfl,Tj _ _,O.ah ((Bs w3 w.1.size _ _ _ _ _ _ _ _ _ _ _ _).A O.size Yu)⟩
     |true=>
      have zN:=(Ih hok).1;have x:=f.2.2.2.2.1.ok (FJ hwd.1 hwd.2);have m:=f.2.2.2.1;have o:GB d r.D r.F r.C (R.map (·.1)) r.ps r.ls (Bo s d).k (Bo s d).n (Bo s d).t (Bo s d).ss:=by rw[m];exact FN.kf x zN (by have:=Wh zN;unfold maxLen;omega)
      have V:=Yw (Iz (w.1.size+2) d r.D r.F r.C b ta pa Z tc pc z R r.ps r.ls (Bo s d).sum (Bo s d).name (Bo s d).t (Bo s d).n (Bo s d).ss ra rc w3 (Bo s d).k y o (by rw[m];exact x.fc) C.1 C.2);obtain⟨v0,v1,v2,v3,v4,v5,v6⟩:=Aa.c7 Q 0 1 2 3 4 5 6;obtain⟨B,T,u2,u3,u4,u5⟩:=Aa.c6 U 0 1 2 3 4 5;have yA:=Yw Q;have yC:=Yw S;have zI:=Yw y;clear U Q y C h S o;go_upto_region 8 with fail;rw[<-D.o]
      clear D;go_wp2_with fail;refine V.Ai ?_;rintro e w4 ⟨o,hQ⟩;have zG:∀q∈(C3 Z r.ls.length z).ownBlock.toList,w.1.size+2<=q:=λq c=>(Ac zI.lo (D2 c)).1;have zE:=o.A zI.lb zG;have Q:=Aa.same yC (zE.block _ Yv);have s4:=Aa.same yA (zE.block _ Yv);have U:=Yw (O.ah (zE.aj Yv))
      clear v0 v1 v2 v3 v4 v5 v6 B T u2 u3 u4 u5 V o;rcases hQ with⟨c,a',b',D,rfl⟩|⟨y,b1,zV,zX,zY,zT,zU,zR,zS,B,rfl,hm,hC⟩
      .rw[m]at D;have yM:(c !=0)=true:=by have:=D.code;simp;omega
       have zZ:=Yw D;have q:(BE c a' b').toArray= #[Zg c,Ze,Ze,Ze,Ze,Zb,Zb,Zb,Zc,Ze,C4 a',C4 b']:=rfl;rw[q];have⟨w5,o⟩:=D6 w4 #[Zg c,Ze,Ze,Ze,Ze,Zb,Zb,Zb,Zc,Ze,C4 a',C4 b'] 36;have C:=(AE o).1;have h:=(AE o).2.2;have S:=Yw (U.ah (C.aj U.size))
       obtain⟨⟨E,q0⟩,⟨F,q1⟩,⟨G,q2⟩,⟨H,q3⟩,⟨I,q4⟩,⟨J,q5⟩,⟨K,q6⟩,⟨L,q7⟩,⟨M,q8⟩,⟨N,q9⟩,⟨p,zB⟩,t,zC⟩:=Bf (Aa.A (v:=Ze) Q C);obtain⟨m0,_⟩:=h 0 _ rfl;have V:=Yw o;clear o D h Q s4 q;go_upto_region 11 with fail;rw[<-V.o];go_wp2;refine C0 (.agg #[Zg 7,Ze,Ze,Ze,Ze,Zb,Zb,Zb,Zc,Zg ((k:Int)+1),Zc,Zc]) (by simp[results,results104,go_sem,E,F,G,H,I,J,K,L,M,N,p,t]) ?_
       exact⟨⟨7,0,0,0,0,((k+1:Nat):Int),⟨#[]⟩,⟨#[]⟩,⟨#[]⟩,[],[],[]⟩,_,_,_,[],.inr ⟨⟨hwd,hlen⟩,.inl ⟨k+1,⟨k,r,s,rfl,HG,f.2.2.2.2.1,.inr ⟨c,a',b',zZ⟩⟩,rfl⟩⟩,rfl,Tj _ _,S.ah ((Bs w5 w.1.size _ _ _ _ _ _ _ _ _ _ _ _).A S.size Yu)⟩
      .rw[m]at B;have⟨w5,o⟩:=D6 w4 #[Ze,Zg d,Zg y.D,Zg y.F,Zg y.C,C3 zV y.ks.length zX,C3 zT y.ps.length zU,C3 zR y.ls.length zS,C4 y.j,Zg y.le,Zc,Zc] 36;have C:=(AE o).1;have h:=(AE o).2.2;have D:=Aa.A s4 C;have x5:=Aa.A (v:=Ze) Q C;have s:=hC.A C;have zH:=Yw (U.ah (C.aj U.size));have T:y.ks.length=zY.length:=by rw[<-hm,A9]
       have q:=Yw (Zn D (Zn x5 (Zn s (Zn hm (Zn B T)))));obtain⟨⟨v0,p0⟩,⟨v1,p1⟩,⟨v2,p2⟩,⟨v3,p3⟩,⟨v4,p4⟩,⟨v5,p5⟩,v6,p6⟩:=(⟨D 0 _ rfl,D 1 _ rfl,D 2 _ rfl,D 3 _ rfl,D 4 _ rfl,D 5 _ rfl,D 6 _ rfl⟩:(_/\_)/\(_/\_)/\(_/\_)/\(_/\_)/\(_/\_)/\(_/\_)/\_/\_);obtain⟨m0,m1,m2,m3,m4,m5,m6⟩:=Aa.c7 h 0 1 2 3 4 5 6;obtain⟨m7,_⟩:=h 7 _ rfl;have V:=Yw o;have X:Hid (CZ d r0 (g.take (k+1)) y):=by show CZ _ _ _ _;rw[yB.o];exact f.2.2.2.2.1.snoc ⟨hok,B⟩
       have yK:=s.lb;clear o B h Q s4 D x5 hC s T hm;go_upto_region 11 with fail;rw[<-V.o];clear V;go_wp2
       refine⟨⟨k+1,y,b1,zV,zT,zR,zX,zU,zS,zY,Yv,Yn,⟨?_,Aa.same q.2.1 ((tn7 w5 (w.1.size+1) _ _ _ _ _ _ _).block _ Yv Yu),q.2.2.1.low (tn7 w5 (w.1.size+1) _ _ _ _ _ _ _) Yu,q.2.2.2.1,X,zH.ah ((tn7 w5 (w.1.size+1) _ _ _ _ _ _ _).A zH.size Yu)⟩⟩,Ys⟩;rw[<-q.2.2.2.2.2];exact Aca q.1 _ _ _ _ _ _ _
    .obtain rfl:k=g.length:=Yv
     have j:=f.2.2.2.2.1;rw[Zt (Zx)]at j;have x:=j.ok (FJ hwd.1 hwd.2);have m:=f.2.2.2.1;have o:=f.2.2.1;have D:=IV d r.D r.F r.C ta pa Z tc pc z (R.map (·.1)) r.ps r.ls wr ⟨o.dx,o.ia,o.gy⟩ (λB V=>by
      rcases o.tb with e|e
      .rw[e]at V;cases V;exact o.z.some
      .rw[e];intro i k hk;simp at hk) (CF o.po) (CF o.lo) (by rw[m];exact x.bt.len) x.np x.nl (by rw[m];exact x.fc)
     rw[A9,m]at D;have V:=Yw D;have s:=Yw j;obtain⟨v0,v1,v2,v3,v4,v5,v6⟩:=Aa.c7 f.1 0 1 2 3 4 5 6;clear D j x m o zO zP P n;go_wp2_with fail;refine V.Ai ?_;rintro e w4 ⟨T,P',L',rs,rfl,j,_,m⟩;obtain⟨yI,yJ,rfl⟩:=Aq j.ak;obtain⟨B,yH,rfl⟩:=Aq j.pins;obtain⟨D,P,rfl⟩:=Aq j.au;have Q:=Aa.A (v:=Ze) f.2.1 m;have x:=f.2.1.lt;have o:=Yw (Zn j m)
     have⟨⟨E,q0⟩,⟨F,q1⟩,⟨G,q2⟩,⟨H,q3⟩,⟨I,q4⟩,⟨J,q5⟩,⟨K,q6⟩,⟨L,q7⟩,⟨M,q8⟩,⟨N,q9⟩,⟨p,zB⟩,t,zC⟩:=Bf Q;clear j m V Q v0 v1 v2 v3 v4 v5 v6;go_wp2;refine C0 (.agg #[Ze,Zg d,Zg r.D,Zg r.F,Zg r.C,C3 yI r.ks.length yJ,C3 B r.ps.length yH,C3 D r.ls.length P,Zc,Ze,Zc,Zc]) (by simp[results,results104,go_sem,E,F,G,H,I,J,K,L,M,N,p,t]) ?_;have n:=f.2.2.2.2.2
     refine⟨⟨0,d,r.D,r.F,r.C,0,⟨#[]⟩,⟨#[]⟩,⟨#[]⟩,r.ks,r.ps,r.ls⟩,_,_,_,rs,.inr ⟨⟨hwd,hlen⟩,.inr ⟨r,s,rfl⟩⟩,rfl,(o.1.K (Bs w4 w.1.size _ _ _ _ _ _ _ _ _ _ _ _) (by simp;exact x)).aj n.size,?_⟩;exact(n.ah (o.2.aj n.size)).ah ((Bs w4 w.1.size _ _ _ _ _ _ _ _ _ _ _ _).A (Zm n.size o.2.size) Yu)
  .have yF:decide ((4000:Int)<g.length)=true:=Yt
   have u:=Yw f;clear f;go_enter func104,ntmps104;go_wp2_with fail;rw[<-HW.o];refine u.Ai ?_;rintro e w1 ⟨rfl,l⟩;replace l:=l.symm;subst l;clear u;go_wp2;refine C0 (.agg (Xy 1)) (by simp[results,results104,go_sem,E,F,G,H,I,J,K,L,M,N,p,t]) ?_
   exact⟨⟨1,0,0,0,0,0,⟨#[]⟩,⟨#[]⟩,⟨#[]⟩,[],[],[]⟩,_,_,_,[],.inl ⟨λh=>hlen h.2,rfl⟩,rfl,Tj _ _,Y.ah ((Bs W w.1.size _ _ _ _ _ _ _ _ _ _ _ _).A Y.size Yu)⟩
 .rw[decide_eq_false hwd]at f;have u:=Yw f;clear f;go_enter func104,ntmps104;go_wp2_with fail;rw[<-HW.o];refine u.Ai ?_;rintro e w1 ⟨rfl,l⟩;replace l:=l.symm;subst l;clear u;go_wp2;refine C0 (.agg (Xy 1)) (by simp[results,results104,go_sem,E,F,G,H,I,J,K,L,M,N,p,t]) ?_
  exact⟨⟨1,0,0,0,0,0,⟨#[]⟩,⟨#[]⟩,⟨#[]⟩,[],[],[]⟩,_,_,_,[],.inl ⟨λh=>hwd h.1,rfl⟩,rfl,Tj _ _,Y.ah ((Bs W w.1.size _ _ _ _ _ _ _ _ _ _ _ _).A Y.size Yu)⟩
theorem ZH{j:Nat}(h:z12[j]?=some (.string s)):s=⟨#[]⟩:=by have:=Zs h;simpa [z12]using this
theorem LB{t:TypeId}{a:Nat×Nat}(h:w.1[o]?=some (.cells z12.toArray t a))(j:Nat):w.cell? (Zd o j)=z12[j]?:=by simp[cell?,h]
theorem Bm.ij{p:Zh}{t:TypeId}{y:Nat×Nat}{c:List (Kd×Value)}(h:Bm w b 0 c)(l:w.1[o]?=Option.some (.cells z12.toArray t y))(u:∀z∈c,∀s∈z.1.B,s≠⟨#[]⟩)(D:Tn [o] w p)(q:b<w.1.size):Bm p b 0 c:=by
 cases hzs:c with
 |nil=>intro i z a;simp at a
 |cons z0 zs0=>
  rw[<-hzs];have A:b≠o:=by rintro rfl;obtain⟨⟨g,_⟩,_⟩:=h 0 z0 (by rw[hzs];rfl);rw[Nat.zero_mul,Nat.add_zero,LB l]at g;simp[z12]at g
  refine h.K D q (D2 A) (λz a d n d e j d=> ?_);have⟨i,C⟩:=A5 a;have⟨_,E,F,k,f⟩:=h i z C;rw[e]at k;cases k;rcases f with f|⟨G,v,x,_,B⟩
  .exact j f
  .cases x;simp at d;subst d;have⟨r,m,d⟩:∃r m,z.1.B=r::m:=exists_cons_of_ne_nil j;have j:=B 0 r (by rw[d];rfl);rw[LB l]at j;exact u z a r (by rw[d];simp) (ZH j)
theorem CT.ij{t:Zh}{r n k:Zk}{p:Nat}{j:List (Kd×Value)}{q:Dy}{m:Dv}(h:CT w a b r n k p l j q m)(i:w.1[o]?=some (.cells z12.toArray 36))(u:∀z∈j,∀s∈z.1.B,s≠⟨#[]⟩)(f:Tn [o] w t):CT t a b r n k p l j q m:=
 ⟨h.tb,h.z.ij i u f h.bl,Zr h.bl f.size,As h.po (λg e=>f.block g (Ac h.po e).2 (by
  simp only[mem_singleton];rintro rfl;have⟨c,d⟩:=Cz h.po e;rw[i]at d;simp at d)),As h.lo (λg e=>f.block g (Ac h.lo e).2 (by
  simp only[mem_singleton];rintro rfl;have⟨c,d⟩:=Cz h.lo e;rw[i]at d;simp at d)),Zm h.lb f.size,h.bL,h.pL,h.zL,h.zb,h.zr⟩
theorem CT.of{j:Zj}{f:List Kd}{F:List Pd}(a:Ba w d T P L j f F E)(s:∀v∈T::P::L::j,∃g n c,v=Yz g n c)(S:d<=w.1.size):
 ∃b p l G u t h,T=Yz b h.length G/\P=Yz p F.length u/\L=Yz l E.length t/\h.map (·.1)=f/\CT w d b (some ⟨b,0,none⟩) (some ⟨p,0,none⟩) (some ⟨l,0,none⟩) u t h F E/\d<=l/\l<w.1.size:=by
 obtain⟨b,I,G,rfl⟩:=s T Yu;obtain⟨p,J,u,rfl⟩:=s P Yu;obtain⟨l,K,t,rfl⟩:=s L Yu;have⟨_,_,N⟩:=Aq a.ak;have⟨_,_,O⟩:=Aq a.pins;have⟨_,_,Q⟩:=Aq a.au;cases N;cases O;cases Q;have hlen:(f.zip j).length=f.length:=by rw[length_zip,a.len];omega
 have x:(f.zip j).map (·.1)=f:=map_fst_zip (by rw[a.len];exact Zx);have o:=a.nd;rw[Fo]at o;unfold BX at o;obtain⟨I,J,K⟩:=Qj o (l:=l) rfl;have B:=a.ak;rw[<-hlen]at B;have q:∀z∈f.zip j,∃i,f[i]?=some z.1/\j[i]?=some z.2:=λz h=>by have⟨i,D⟩:=A5 h;rw[getElem?_zip_eq_some]at D;exact⟨i,D.1,D.2⟩
 refine⟨b,p,l,G,u,t,f.zip j,by rw[hlen],rfl,rfl,x,⟨.inl rfl,?_,(Ac a.ak rfl).2,a.pins,a.au,S,?_,?_,?_,.inr (Ac a.ak rfl).1,?_⟩,Ac a.au rfl⟩
 .refine Bm.own B (λz h=> ?_);have⟨i,r,k⟩:=q z h;have m:=a.B i z.1 z.2 r k;obtain⟨R,Y,M,C⟩:=s z.2 (by simp;exact .inr (.inr (.inr (Zs k))));have⟨X,W,y⟩:=Aq m;rw[C]at y;cases y;rw[C]at m;exact⟨⟨R,0,none⟩,M,C,Af.own m⟩
 .intro e;simp[ownBlock]at e;exact I (by simp[ownBlock,e])
 .intro g U e;simp[ownBlock]at U e;exact J (by simp[ownBlock];omega)
 .intro z h H n V e _ A;simp[ownBlock]at A;have⟨i,r,k⟩:=q z h;refine K (mem_filterMap.2 ⟨z.2,Zs k,?_⟩);rw[e];simp[ownBlock,A]
 .intro z h H n V e _;have⟨i,r,k⟩:=q z h;have m:=a.B i z.1 z.2 r k;rw[e]at m;exact(Ac m (g:=H.block) (by simp[ownBlock])).1
structure UT (w wx:Zh) (v:Vd) (a:Va) (b:Nat) (o:An) (ta pa la:Zk) (tc pc lc:Nat):Prop where
 box:Aa wx b [Zg o.code,Zg o.wd,Zg o.D,Zg o.F,Zg o.C,.slice ta o.ks.length tc,.slice pa o.ps.length pc,.slice la o.ls.length lc,.string o.j,Zg o.le,.string o.a,.string o.b]
 rows:Bx wx wx.1.size ta pa la o.ks o.ps o.ls
 rto:RK v.wd (v.ss++v.E) o
 je:Aa wx w.1.size [Zg v.wd,Zg v.lim,.slice a.i v.ss.length a.sc,.slice a.Y v.E.length a.Z,Zg v.O,Zg v.D,Zg v.F,Zg v.C,.slice a.W v.ks.length a.X,.slice a.N v.ps.length a.Q,.slice a.L v.ls.length a.P,Zg v.M,.slice a.qa v.H.length a.qc,.slice a.y v.ms.length a.mc,Zg v.U,Zg v.V,Zg v.ro]
 cu:Below w.1.size w wx
theorem UT.fin{c d:Zh}{a:Va}{o:An}{i h g:Zk}(p:RK v.wd (v.ss++v.E) o)(q:∀X,Tn [b] d X->Bx X X.1.size i h g o.ks o.ps o.ls)(f:Zz w c)(e:Zz c d)(s:Aa c w.1.size (Xn v a))(u:w.1.size<c.1.size)(t:Aa d b z12)(y:c.1.size<=b):
 UT w ((((((((((((d.setCell (Zd b 0) (Zg o.code)).setCell (Zd b 1) (Zg o.wd)).setCell (Zd b 2) (Zg o.D)).setCell (Zd b 3) (Zg o.F)).setCell (Zd b 4) (Zg o.C)).setCell (Zd b 5) (C3 i o.ks.length n)).setCell (Zd b 6) (C3 h o.ps.length m)).setCell (Zd b 7) (C3 g o.ls.length l)).setCell (Zd b 8) (C4 o.j)).setCell (Zd b 9) (Zg o.le)).setCell (Zd b 10) (C4 o.a)).setCell (Zd b 11) (C4 o.b)) v a b o i h g n m l:=by
 have k:=Bs d b (Zg o.code) (Zg o.wd) (Zg o.D) (Zg o.F) (Zg o.C) (C1 i o.ks n) (C1 h o.ps m) (C1 g o.ls l) (C4 o.j) (Zg o.le) (C4 o.a) (C4 o.b);have x:=e.size;refine⟨SC t _ _ _ _ _ _ _ _ _ _ _ _,?_,p,?_,?_⟩
 .exact q _ k
 .exact Aa.same (Aa.A s e) (k.block _ Yv Yt)
 .exact(f.ah (e.aj f.size)).ah (k.A (Dz f.size) (λj r=>by simp at r;have:=f.size;omega))
theorem EA(v:Vd)(a:Va)(w:Zh)(q:Df w w.1.size a v)(d:Wj a v)(A:FZ v):
 D8 133 #[.agg (Xq v a)] w λe w'=>Ay (CB v) w w' e:=by
 have⟨W,c⟩:=D6 w (Xq v a) 100;have M:=(AE c).1;have zW:=(AE c).2.1;have t:=(AE c).2.2;have HX:Hid (Aa W _ _):=(AE c).2.2;have HR:=Yw q;have HW:=Yw c;have U:=Yw (Fy v.wd W);have zB:=Yw (CS v.lim 0 1000000 W);have zE:=Yw (En a.i a.Y a.sc a.Z v.ss v.E W w.1.size M.size (q.s.A M) (q.t.A M) A.s A.t A.ss A.E);have⟨N,O,Q,R,y4,y5,y6,y7,y8,y9,E,F,G,H,I,J,K⟩:=Qe t;clear c t q
 by_cases hwd:1<=v.wd/\v.wd<=8
 .rw[decide_eq_true hwd]at U;by_cases hlim:0<=v.lim/\v.lim<=1000000
  .rw[decide_eq_true hlim]at zB;cases hlog:Cv v.ss v.E with
   |true=>
    rw[hlog]at zE;have zZ:=EM hlog;have⟨xs,c⟩:=Ae (v.ss++v.E);have n:Hid (∀X,Zz W X->D8 105 #[.agg #[C1 a.i v.ss a.sc,C1 a.Y v.E a.Z]] X λe w'=>∃g q,e=C5 (C7 g xs q)/\w'.ownsRow X.1.size 9 1 (C7 g xs q) xs.length (xs.map string)/\Zz X w'):=λX y=>by have hb:=M.ah (y.aj M.size);rw[c];exact NK a.i a.Y a.sc a.Z v.ss v.E X (HR.s.T hb) (HR.t.T hb) d.s d.t A.s A.t
    have k:Hid (∀(X:Zh) (g q:Nat),Af X X.1.size (some ⟨g,0,none⟩) xs->D8 104 #[Zg v.wd,C7 g xs q] X λe w'=>∃(o:An) (m:Zk) (p:Nat) (j:Zk) (l:Nat) (f:Zk) (i:Nat) (rs:Zj),e=C5 (.agg #[Zg o.code,Zg o.wd,Zg o.D,Zg o.F,Zg o.C,C1 m o.ks p,C1 j o.ps l,C1 f o.ls i,C4 o.j,Zg o.le,C4 o.a,C4 o.b])/\RK v.wd xs o/\Ba w' X.1.size (C1 m o.ks p) (C1 j o.ps l) (C1 f o.ls i) rs o.ks o.ps o.ls/\Zz X w'):=λX g q h=>by
     refine(KX v.wd _ _ xs X h (by rw[c];omega) (λs t=>by rw[c]at t;rcases A7.1 t with h|h;exact A.ss s h;exact A.E s h)).aj ?_;rintro e w' ⟨o,T,P,L,rs,t,rfl,hS,hb⟩;obtain⟨m,p,j,l,f,i,rfl,rfl,rfl,_⟩:=hS.rows;exact⟨o,m,p,j,l,f,i,rs,rfl,t,hS,hb⟩
    have zN:=Yw c;clear c;have HM:=Yw d.m;clear d;go_enter func133,ntmps133;go_wp2_with fail;rw[<-HW.o];refine U.Ai ?_;rintro e w1 ⟨rfl,c⟩;replace c:=c.symm;subst c;go_wp2_with fail;refine zB.Ai ?_;rintro e w1 ⟨rfl,c⟩;replace c:=c.symm;subst c;go_wp2_with fail;refine zE.Ai ?_;rintro e d ⟨rfl,Y⟩;have z:=Aa.A HX Y
    have z2:w.1.size+1<=d.1.size:=Dz Y.size
    have zS:=Yw Y;have zG:=Yw z;have S:=Yw (M.ah (Y.aj M.size));clear N O Q R y4 y5 y6 y7 y8 y9 E F G H I J K U zB zE Y HW;have⟨N,O,Q,R,_⟩:=Qe z;clear z;go_upto_region 3 with fail;generalize (.agg (Xq v a):D4)=dv0;go_cut [3] (λu z=>∃(b:Nat) (o:An) (m j f:Zk) (p l i:Nat),u=Yy b/\Hid (UT w z v a b o m j f p l i))
    case first=>
     have V:Hid (∀X,Zz d X->X.cell? (Zd (w.1.size) 0)=some (Zg v.wd)/\X.cell? (Zd (w.1.size) 2)=some (C1 a.i v.ss a.sc)/\X.cell? (Zd (w.1.size) 3)=some (C1 a.Y v.E a.Z)):=λX y=>by have⟨u0,u1,u2,u3,_⟩:=Qe (Aa.A zG y);exact⟨u0,u2,u3⟩
     have HL:Hid (∀X,Zz d X->Zz W X):=λX y=>zS.ah (y.aj zS.size);have D0:Below d.1.size d d.drew:=Ad.drew;have D1:∀o,Zz d (d.alloc o).drew:=λo=>(Zy).drew;clear N O Q R;go_region_held3 (λX=>X.cell? (Zd (w.1.size) 0)=some (Zg v.wd)/\X.cell? (Zd (w.1.size) 2)=some (C1 a.i v.ss a.sc)/\X.cell? (Zd (w.1.size) 3)=some (C1 a.Y v.E a.Z))
      (first
        |with_reducible exact V.o _ D0
        |with_reducible exact V.o _ (D1 _)
        |with_reducible exact V.o _ z
        |with_reducible exact V.o _ (z.alloc z.size _)
        |with_reducible exact V.o _ C
        |with_reducible exact V.o _ (C.alloc C.size _)
        |with_reducible exact V.o _ (C.ah ((Bs u _ _ _ _ _ _ _ _ _ _ _ _ _).A C.size (by intro x hx;simp at hx;omega))))
      (first
        |(go_at_call 105;guard_target=~D8 105 _ (drew (alloc d _)) _;refine Calls.mono (n (d.alloc (.cells Xz 36)).drew (HL _ (D1 _))) ?_;rintro e y ⟨g,q,rfl,B,zH⟩;have z:Below d.1.size d y:=(D1 _).ah (zH.aj Yu);have Z:=Af.own B;clear B;have zA:Aa y d.1.size z12:=Aa.A (v:=Ze) (w:=(d.alloc (.cells Xz 36))) (Aa.new d z12 36) (Dm zH))
        |(go_at_call 105;guard_target=~D8 105 _ (drew d) _;refine Calls.mono (n d.drew (HL _ D0)) ?_;rintro e y ⟨g,q,rfl,B,zH⟩;have z:Below d.1.size d y:=D0.ah zH;have Z:=Af.own B;clear B;have nA:=z)
        |(go_at_call 104;have zI:=zA;refine Calls.mono (k y g q Z) ?_;rintro e u ⟨o,m,p,j,l,f,i,rs,rfl,t,B,s⟩;have D:=Yw (Zn t B);clear t B Z;have C:Below d.1.size d u:=z.ah (s.aj z.size);have zO:Aa u d.1.size z12:=Aa.A (v:=Ze) zA s;have zR:d.1.size<y.1.size:=Aa.lt (v:=Ze) zA;have zC:d.1.size<=d.1.size:=Zx;have⟨⟨t0,q0⟩,⟨t1,q1⟩,⟨t2,q2⟩,⟨t3,q3⟩,⟨t4,q4⟩,⟨t5,q5⟩,⟨t6,q6⟩,⟨t7,q7⟩,⟨t8,q8⟩,⟨t9,q9⟩,⟨t10,q10⟩,t11,q11⟩:=Bf zO)
        |(go_at_call 104;guard_target=~D8 104 _ (alloc y _) _;refine Calls.mono (k (y.alloc (.cells Xz 36)) g q (Z.T (Zy))) ?_;rintro e u ⟨o,m,p,j,l,f,i,rs,rfl,t,B,s⟩;have D:=Yw (Zn t B);clear t B Z;have C:Below d.1.size d u:=(z.alloc z.size _).ah (s.aj (by have:=z.size;simp;omega));have zP:Aa u y.1.size z12:=Aa.A (v:=Ze) (w:=(y.alloc (.cells Xz 36))) (Aa.new y z12 36) s;have zC:d.1.size<=y.1.size:=z.size;have⟨⟨t0,q0⟩,⟨t1,q1⟩,⟨t2,q2⟩,⟨t3,q3⟩,⟨t4,q4⟩,⟨t5,q5⟩,⟨t6,q6⟩,⟨t7,q7⟩,⟨t8,q8⟩,⟨t9,q9⟩,⟨t10,q10⟩,t11,q11⟩:=Bf zP)
        |(go_at_call 104;have zI:=nA;refine Calls.mono (k y g q Z) ?_;rintro e u ⟨o,m,p,j,l,f,i,rs,rfl,t,B,s⟩;have D:=Yw (Zn t B);clear t B Z;have C:Below d.1.size d u:=z.ah (s.aj z.size);have nD:=nA))
     all_goals
      go_wp2_with fail;go_meet
     all_goals first
      |(have zI:=zO
        exact⟨d.1.size,o,m,j,f,p,l,i,rfl,UT.fin (zN.o▸D.1) (λX t=>Ba.get (D.2.K t (by simp;exact zR))) S C zG Yv zO zC⟩)
      |(have zI:=zP
        exact⟨y.1.size,o,m,j,f,p,l,i,rfl,UT.fin (zN.o▸D.1) (λX t=>Ba.get (D.2.K t Yu)) S C zG Yv zP zC⟩)
      |(have zI:=nD
        exact⟨u.1.size,o,m,j,f,p,l,i,rfl,⟨Aa.new u [Zg o.code,Zg o.wd,Zg o.D,Zg o.F,Zg o.C,C1 m o.ks p,C1 j o.ps l,C1 f o.ls i,C4 o.j,Zg o.le,C4 o.a,C4 o.b] 36,(Ba.get D.2).T (Zy),zN.o▸D.1,Aa.A (Aa.A zG C) (Zy),(S.ah (C.aj S.size)).alloc (Zm S.size C.size) _⟩⟩)
    case rest=>
     clear N O Q R n k;obtain⟨b,o,m,j,f,p,l,i,rfl,t⟩:=hcut;rcases t.rto with⟨yA,_⟩|⟨_,⟨n,B,ho⟩|⟨r,B,ho⟩⟩
     .exact absurd ⟨hwd,zZ⟩ yA
     .have zJ:o.code=7:=by rw[ho]
      obtain⟨m0,_⟩:=t.box 0 _ rfl;rw[zJ]at m0;have Z:=Yw t.cu;have zK:Hid (¬CB v):=λ⟨r,h⟩=>MA.not hwd.1 hwd.2 B h.run;clear ho B t;go_wp2;go_ret;exact Ay.no zK Z
     .subst ho;have X:=B.ok (FJ hwd.1 hwd.2);have⟨⟨m0,_⟩,⟨m1,_⟩,⟨m2,_⟩,⟨m3,_⟩,⟨m4,_⟩,⟨m5,_⟩,⟨m6,_⟩,m7,_⟩:=XG t.box;have⟨N,O,Q,R,y4,y5,y6,y7,y8,y9,E,F,G,H,I,J,K⟩:=Qe t.je;have Z:=Yw t.cu;have zV:=HR.R.ag Z
      have zT:=Yw (NU (.inl ⟨rfl,rfl⟩) v.wd r.D r.F r.C v.O v.D v.F v.C m j f a.W a.N a.L p l i a.X a.Q a.P r.ks v.ks r.ps v.ps r.ls v.ls wc t.rows (zV.aj Z.size) ⟨Dz X.bt.len,Dz X.np,Dz X.nl⟩ ⟨A.R.k,A.R.p,A.R.l⟩ (λk hk=>Dz (X.fc k hk)) A.R.r);have zM:=Yw t.je;have zF:=Yw B;have zY:=Yw X.ai;clear zV X t;go_wp2_with fail
      refine zT.Ai ?_;rintro e w5 ⟨bb,rfl,t,X⟩;have k:=Yw (Z.ah (X.aj Z.size));have x5:=Aa.A zM X;clear m0 m1 m2 m3 m4 m5 m6 m7 N O Q R y4 y5 y6 y7 y8 y9 E F G H I J K zT X B;cases bb with
      |false=>
       have zK:Hid (¬CB v):=λ⟨r',h⟩=>by obtain rfl:=zF.gj h.run;have:=t.2 h.same;cases this
       clear t x5 zM;go_wp2;go_ret;exact Ay.no zK k
      |true=>
       have B:=Yw (t.1 rfl);have⟨N,O,Q,R,y4,y5,y6,y7,y8,y9,E,F,G,H,I,J,K⟩:=Qe x5;have X:=Yw (VO v.O v.D v.F v.C v.M v.U v.V v.ro (C1 a.W v.ks a.X) (C1 a.N v.ps a.Q) (C1 a.L v.ls a.P) a.qa a.y a.qc a.mc v.H v.ms w5 (HR.q.T k) (HR.m.T k) A.r HM (by have h1:=B.1.2.2.2;have h2:=zY.o;omega));clear t x5 zM;go_wp2_with fail;refine X.Ai ?_
       rintro e w6 ⟨bb,rfl,t,zU⟩;have zX:=Yw (k.ah (zU.aj k.size));have HN:Hid (bb=true↔CB v):=by have h1:=B.1.1;rw[<-h1]at t;refine⟨λh=>⟨r,hwd,hlim,hlog,zF,B,t.1 h⟩,λ⟨r',h⟩=>t.2 h.round⟩
       clear N O Q R y4 y5 y6 y7 y8 y9 E F G H I J K X t zU;go_wp2;go_ret;exact⟨bb,rfl,HN,zX⟩
   |false=>
    rw[hlog]at zE;go_enter func133,ntmps133;go_wp2_with fail;rw[<-HW.o];refine U.Ai ?_;rintro e w1 ⟨rfl,c⟩;replace c:=c.symm;subst c;go_wp2_with fail;refine zB.Ai ?_;rintro e w1 ⟨rfl,c⟩;replace c:=c.symm;subst c;go_wp2_with fail;refine zE.Ai ?_;rintro e d ⟨rfl,Y⟩;have S:=Yw (M.ah (Y.aj M.size));clear N O Q R y4 y5 y6 y7 y8 y9 E F G H I J K;go_wp2;go_ret
    exact Ay.no (λ⟨r,h⟩=>by have:=h.log;rw[hlog]at this;cases this) S
  .rw[decide_eq_false hlim]at zB;go_enter func133,ntmps133;go_wp2_with fail;rw[<-HW.o];refine U.Ai ?_;rintro e w1 ⟨rfl,c⟩;replace c:=c.symm;subst c;go_wp2_with fail;refine zB.Ai ?_;rintro e w1 ⟨rfl,c⟩;replace c:=c.symm;subst c;clear N O Q R y4 y5 y6 y7 y8 y9 E F G H I J K;go_wp2;go_ret;exact Ay.no (λ⟨r,h⟩=>hlim h.lim) M
 .rw[decide_eq_false hwd]at U;go_enter func133,ntmps133;go_wp2_with fail;rw[<-HW.o];refine U.Ai ?_;rintro e w1 ⟨rfl,c⟩;replace c:=c.symm;subst c;clear N O Q R y4 y5 y6 y7 y8 y9 E F G H I J K;go_wp2;go_ret;exact Ay.no (λ⟨r,h⟩=>hwd h.wd) M
theorem CT.ik{g:Zk}{j:Nat}{i:List (Kd×Value)}{f:Dy}{d:Dv}(h:CT w a b g e c k j i f d):Bx w w.1.size g e c (i.map (·.1)) f d:=⟨h.dx,h.ia,h.gy⟩
def ZSp(r:Rs)(xa:Zk)(_:Nat)(pa:Zk)(pc:Nat)(la:Zk)(lc:Nat)(X:Zh):Prop:=
 ∃base b zs,zs.map (·.1)=r.ks/\CT X base b xa pa la pc lc zs r.ps r.ls
def KSp(v:Vd)(cs:Zj)(V:List Nat)(X:Zh):Prop:=
 ∃base b p l tc pc lc zs,cs=[Zg v.O,Zg v.D,Zg v.F,Zg v.C,.slice (some ⟨b,0,none⟩) zs.length tc,.slice (some ⟨p,0,none⟩) v.ps.length pc,.slice (some ⟨l,0,none⟩) v.ls.length lc]/\V=[l]/\zs.map (·.1)=v.ks/\CT X base b (some ⟨b,0,none⟩) (some ⟨p,0,none⟩) (some ⟨l,0,none⟩) pc lc zs v.ps v.ls
theorem BP.sz{d j c b:Int}{ks:Dj}{q:Dv}{p:Int}{t:Zi}{l:Int}{f:Zi}{e:Zl}(m:1<=d)(h:∀k∈ks,(k.sum.size:Int)=d)(g:BP d j c b ks u q p s t l f e r):∀k∈r.ks,(k.sum.size:Int)=d:=by
 rcases g with⟨rfl,_,o,n,x,y,g,rfl⟩|⟨_,_,i,rfl⟩|⟨_,_,rfl⟩|⟨_,_,o,n,rfl⟩|⟨_,_,rfl⟩|⟨_,A,rfl⟩|⟨_,_,_,rfl⟩
 .rcases g with⟨_,_,_,_,rfl,rfl⟩|⟨w,v,z,rfl,rfl⟩
  .exact h
  .intro k a;rcases A7.1 (Ho.1 a)with a|a
   .exact h k a
   .rw[mem_singleton]at a;subst a;exact EK _ _ _ m
 .exact h
 .exact h
 .exact h
 .exact h
 .exact h
 .exact λk a=>h k (filter_sublist.subset a)
theorem UU{f:Int}{b:Dj}(h:Kh f b):∀k∈b,∀s∈k.B,s≠⟨#[]⟩:=λk c x d e=>by have a:=Bj (h k c);have⟨i,c⟩:=A5 d;have:=a.size c;rw[e]at this;have d:=a.lo;have g:((⟨#[]⟩:Zi).size:Int)=0:=rfl;omega
def Im(wd:Int)(s:Zi):Zi:=CY 7 s ⟨#[]⟩ 0 ⟨#[]⟩ [] wd
def Bc(v:Vd)(u:UR):Vd:=⟨v.wd,v.lim,v.ss,v.E++u.ds.map (Im v.wd),v.O,v.D,v.F,v.C,u.ks,v.ps,v.ls,u.M,u.H,u.ms,u.U,u.V,u.ro⟩
def Jq(c:Int)(vs:Zj)(n:Int)(D:Value):Zj:=Zg c::(vs++[Zg n,D])
def z20(c:Int):Zj:=[Zg c,Ze,Ze,Zb,Zb,Ze,Ze,Ze,Ze,Zb,Zb,Zb,Ze,Zb,Zb,Ze,Ze,Ze,Ze,Zb]
theorem Wx{a:Zj}(h:a.length=17):prog.built 171 [(1,.agg a.toArray)]=some (Jq 0 a 0 Zb).toArray:=by
 obtain⟨j,k,l,m,n,o,p,q,r,s,b,c,d,e,f,g,i,rfl⟩:=IB h
 kernel_rfl
def Fi(v:Vd)(units:Int)(o:Option (UR×Nat)):Prop:=
 (¬(CB v/\0<=units/\units<=10000)/\o=none)\/∃r,ES v r/\(0<=units/\units<=10000)/\ClTo v.C v.ps v.ls (4000 -(v.ss++v.E).length) units.toNat 0 (EN v) o
def SwA(v:Vd)(o:Option (UR×Nat))(lo:Nat)(w:Zh)(cs:Zj):Prop:=
 match o with
 |none=>cs=z20 1
 |some (u,n)=>∃S U T P L Q M rs D,cs=Jq 0 (Bw (Bc v u) S U T P L Q M) n D/\AM w lo S U T P L Q M rs (Bc v u)/\Ar w lo D u.ds/\∀g,Ap D=some g->g∉DZ S U T P L Q M rs
structure Kk (w:Zh) (a:Va) (v:Vd):Prop where
 rows:Df w w.1.size a v
 s:a.i=none->v.ss.length=0/\a.sc=0
 t:a.Y=none->v.E.length=0/\a.Z=0
 q:FH a.qa v.H.length a.qc
 m:FH a.y v.ms.length a.mc
 k:∀A,a.W=some A->IF w A v.ks
 p:a.N=none->a.Q=0
 l:a.L=none->a.P=0
 ls:v.ss.length<=1048576
 lt:v.E.length<=1048576
 lq:v.H.length<=100000000
 lm:v.ms.length<=100000000
 nk:v.ks.length<=600
 np:v.ps.length<=100
 nl:v.ls.length<=200
 fc:∀k∈v.ks,k.B.length<=30
theorem Kk.A{d:Zh}{a:Va}(h:Kk w a v)(c:Zz w d):Kk d a v:=
 ⟨h.rows.T c,h.s,h.t,h.q,h.m,(λA e=>by have f:=h.k A e;have b:=h.rows.R.k;rw[e]at b;exact f.ag b c),h.p,h.l,h.ls,h.lt,h.lq,h.lm,h.nk,h.np,h.nl,h.fc⟩
theorem FK(v:Vd)(a:Va)(w:Zh)(h:Kk w a v):
 D8 134 #[.agg (Bw v (C3 a.i v.ss.length a.sc) (C3 a.Y v.E.length a.Z) (C3 a.W v.ks.length a.X) (C3 a.N v.ps.length a.Q) (C3 a.L v.ls.length a.P) (C3 a.qa v.H.length a.qc) (C3 a.y v.ms.length a.mc)).toArray] w λe b=>∃(S U T P L Q M:D4) (rs:Zj),e=C5 (.agg (Bw v S U T P L Q M).toArray)/\AM b w.1.size S U T P L Q M rs v/\(∀u∈S::U::Q::M::T::P::L::rs,∃g n c,u=Yz g n c)/\Zz w b:=
 Rg v a w (λX b=>NV _ _ _ _ v.ss v.E X (h.A b).rows.s (h.A b).rows.t h.s h.t h.ls h.lt) (λX b=>Ft _ _ _ _ _ _ _ _ _ _ v.ks v.ps v.ls X (h.A b).rows.R (h.A b).k h.p h.l h.nk h.np h.nl h.fc) (λX b=>KS _ _ _ _ _ _ _ _ v.H v.ms X (h.A b).rows.q (h.A b).rows.m h.q.2 h.m.2 h.lq h.lm)
theorem Ba.jw{s:Nat}{w:Nat}{a:Zj}{c:Dj}{t:Dv}(h:Ba X s (C3 j n w) P L a c u t):∀A,j=some A->IF X A c:=λA d i k b v e=>by
 subst d;have p:=(Zw b).1;have q:i<a.length:=by rw[h.len];exact p
 have f:=Zv q;have d:=h.B i k _ b f;have r:(c.zip a)[i]?=some (k,a[i]):=getElem?_zip_eq_some.2 ⟨b,f⟩;have l:=BN Cn r (show 3<4 by decide);rcases h.ak.2 with⟨b,_⟩|⟨g,x,y,b,_⟩
 .cases b
 cases b;have m:=h.ak.cellAt (i *4+3) Yv;rw[A0,m,l]at e;have o:a[i]=C1 none k.B v:=by injection e
 rw[o]at d;exact CF d rfl
structure KY (w:Zh) (a:Va) (v:Vd):Prop where
 s:FH a.i v.ss.length a.sc
 t:FH a.Y v.E.length a.Z
 q:FH a.qa v.H.length a.qc
 m:FH a.y v.ms.length a.mc
 k:∀A,a.W=some A->IF w A v.ks
 p:a.N=none->a.Q=0
 l:a.L=none->a.P=0
 so:∃rs,Ba w 0 (.slice a.W v.ks.length a.X) (.slice a.N v.ps.length a.Q) (.slice a.L v.ls.length a.P) rs v.ks v.ps v.ls
def MF(v:Vd)(L:Nat)(X:Zh)(cs:Zj):Prop:=
 ∃a:Va,cs=Bw v (.slice a.i v.ss.length a.sc) (.slice a.Y v.E.length a.Z) (.slice a.W v.ks.length a.X) (.slice a.N v.ps.length a.Q) (.slice a.L v.ls.length a.P) (.slice a.qa v.H.length a.qc) (.slice a.y v.ms.length a.mc)/\Df X L a v/\KY X a v
theorem RL{i k o m g:Zk}{j p h:Nat}{b:Zj}(s:Ar X b1 (C3 i v.ss.length j) v.ss)(t:Ar X b2 (C3 k v.E.length l) v.E)(a:Ba X b3 (C3 o v.ks.length p) (C3 m v.ps.length n) (C3 c v.ls.length d) b v.ks v.ps v.ls)(r:Ar X b4 (C3 g v.H.length h) v.H)(q:Ar X b5 (C3 e v.ms.length f) v.ms):
 MF v X.1.size X (Bw v (C3 i v.ss.length j) (C3 k v.E.length l) (C3 o v.ks.length p) (C3 m v.ps.length n) (C3 c v.ls.length d) (C3 g v.H.length h) (C3 e v.ms.length f)):=
 ⟨⟨i,j,k,l,o,p,m,n,c,d,g,h,e,f⟩,rfl,⟨s.iy,t.iy,a.get,r.iy,q.iy⟩,⟨s.cap,t.cap,r.cap,q.cap,a.jw,CF a.pins,CF a.au,b,a.aj (Az _)⟩⟩
theorem AM.ji{c:Zj}(h:AM X a S U T P L Q M c v):MF v X.1.size X (Bw v S U T P L Q M):=by obtain⟨s,u,b,q,m,_⟩:=h;obtain⟨w,x,rfl,d⟩:=s.row;obtain⟨A,B,rfl,e⟩:=u.row;obtain⟨y,z,o,p,j,k,rfl,rfl,rfl,f⟩:=b.rows;obtain⟨r,t,rfl,g⟩:=q.row;obtain⟨l,n,rfl,i⟩:=m.row;exact RL s u b q m
theorem AM.jk{d:Zh}{i:Zj}(h:AM d a S U T P L Q M i v)(k:n<=a)(e:Zz d X):∀V c,(∀b∈V,b<n)->Tn V X c->MF v c.1.size c (Bw v S U T P L Q M):=λV c f c=>by refine(h.stays (((Tn.of (V:=[]) e).aj Yu).ah c) (λb g c=> ?_)).ji;have j:=h.lo b c;have:=f b g;omega
theorem Abb{e:Ed}{n u s g l:Zk}{w c:Nat}{b d:Zl}(A:v.wd=v.O)(H:Ar X b1 (C3 n v.ss.length o) v.ss)(I:Ar X b2 (C3 p f q) b)(B:b=v.E++[e.cz v.wd])(C:f=b.length)(z:Ba X b3 (C3 u r.ks.length w) (C3 s r.ps.length t) (C3 g r.ls.length i) D r.ks r.ps r.ls)(G:Ar X b4 (C3 l c m) d)(y:d=shQ v.M r.ks v.H v.ms (e.held r))(x:c=d.length)(F:Ar X b5 (C3 j v.ms.length k) v.ms):
 MF (doV v e r) X.1.size X [Zg v.wd,Zg v.lim,C3 n v.ss.length o,C3 p f q,Zg v.wd,Zg r.D,Zg r.F,Zg r.C,C3 u r.ks.length w,C3 s r.ps.length t,C3 g r.ls.length i,Zg v.M,C3 l c m,C3 j v.ms.length k,Zg v.U,Zg v.V,Zg v.ro]:=by
 subst C x;subst B y;obtain⟨a,h,E⟩:=RL (v:=doV v e r) (b1:=b1) (b2:=b2) (b3:=b3) (b4:=b4) (b5:=b5) H I z G F;refine⟨a,?_,E⟩;rw[<-h];unfold Bw doV;simp only[<-A]
def SDb(v:Vd)(e:Ed)(w:Zh)(o:Ending)(w':Zh):Prop:=
 ∃d vs,Il v e d/\o=.returned (.agg (dL d vs).toArray)/\(∀V X',(∀b∈V,b<w.1.size)->Tn V w' X'->MF d.v X'.1.size X' vs)/\Zz w w'
theorem Kl{e:Ed}{c:Zj}{d:Dd}(f:Aa X (w.1.size+2) EU/\Zz w X)(l:∀V a,(∀b∈V,b<w.1.size+3)->Tn V X a->MF d.v a.1.size a c)(k:Il v e d)(o:c.length=17/\∀u∈c,u.oneCell'=true)(i:D=dL d c):
 (D.length=22/\∀u∈D,u.oneCell'=true)/\X.there (w.1.size+2) 0 D.toArray.size/\Aa (X.setCells (w.1.size+2) 0 D.toArray.toList) (w.1.size+2) D/\SDb v e w (.returned (.agg D.toArray)) (X.setCells (w.1.size+2) 0 D.toArray.toList):=by
 have g:D.length=22/\∀u∈D,u.oneCell'=true:=by rw[i];exact MD o
 have j:=AV (w.1.size+2) D 0 X;refine⟨g,?_,f.1.ay D (by rw[g.1];rfl),d,c,k,by rw[i],λV a n m=>l ((w.1.size+2)::V) a (λb a=> ?_) ((j.aj Yu).ah (m.aj (by simp;intro b a;exact .inr a))),f.2.ah (j.A f.2.size Yu)⟩
 .rw[show D.toArray.size=22 from by rw[A1];exact g.1];exact f.1.there
 .rcases Bv.1 a with h|h
  .omega
  .have:=n b h;omega
theorem KY.cap{a:Va}(h:KY w a v):Wj a v:=⟨h.s.2,h.t.2,h.m.1⟩
theorem KY.A{d:Zh}{a:Va}(h:KY w a v)(g:Df w w.1.size a v)(c:Zz w d):KY d a v:=
 ⟨h.s,h.t,h.q,h.m,(λA e=>by have f:=h.k A e;have b:=g.R.k;rw[e]at b;exact f.ag b c),h.p,h.l,h.so.imp (λ_ h=>h.A c)⟩
theorem KY.cp{a:Va}(h:KY w a v)(f:Df w w.1.size a v)(b:FZ v)(g:CB v):Kk w a v:=by
 obtain⟨r,d⟩:=g;have c:=ME d;have i:v.ks.length<=600:=by have:=c.dl;unfold EN at this;simp at this;omega
 exact⟨f,h.s.2,h.t.2,h.q,h.m,h.k,h.p,h.l,b.s,b.t,Dz b.r.q,Dz b.r.m,i,c.ok.pl,c.ok.ll,λk e=>(c.ok.B k e).1⟩
def PN(ps:List Pd):Prop:=∀p∈ps,p.name.size<=40
theorem PN.step{n o e b:Int}{u:Dj}{k:Dy}{v:Dv}{m:Int}{j:Zi}{i:Int}{d:Zi}{c:Zl}(h:PN k)(q:Bp m s j i d c n=true)(l:BP n o e b u k v m s j i d c r):PN r.ps:=by
 have t:=(Ee q).2.2.name;rcases l with⟨rfl,g,z,y,w,x,l,rfl⟩|⟨_,g,_,rfl⟩|⟨_,_,rfl⟩|⟨_,g,_,_,rfl⟩|⟨_,_,rfl⟩|⟨_,_,rfl⟩|⟨_,_,_,rfl⟩
 .exact h
 .intro p a;have f:p∈Bh k j s:=a;unfold Bh at f;rcases A7.1 f with a|a
  .rcases A7.1 a with a|a
   .exact h p (Bb.1 a).1
   .rw[mem_singleton.1 a];exact t
  .exact h p (Bb.1 a).1
 .exact λp a=>h p (Bb.1 a).1
 .exact h
 .exact h
 .exact h
 .exact h
theorem CZ.pn{c:Int}:∀{xs:Zl} {r r':Rs},CZ c r xs r'->PN r.ps->PN r'.ps
 |[],r,r',h,hr=>by obtain rfl:r'=r:=h;exact hr
 |x::xs,r,r',h,hr=>by obtain⟨d,a,b⟩:=h;exact CZ.pn b (hr.step (Ih a.1).1 a.2)
theorem Ql{j m d a:Int}{h:Dj}{g:Dy}{i:Dv}(c:FN j m d a h g i)(f:RX j a h g i)(n:PN g)(u:j<=8):Hf h g i:=by
 have o:=c.ai;have q:=c.bt.len;have r:=c.np;have t:=c.nl
 refine⟨⟨Yo,λk b=>by have:=c.bt.sz k b;unfold maxLen;omega,λk b=>by have:=c.cz k b;unfold maxLen;omega,λk b=>by have:=c.fc k b;unfold maxLen;omega,λk b s e=>by have:=f.rs k b s e;unfold maxLen;omega⟩,⟨Yo,λp e=>by have:=n p e;unfold maxLen;omega,λp e=>by have:=f.gx p e;unfold maxLen;omega⟩,⟨Yo,λl e=>by have:=f.ig l e;unfold maxLen;omega⟩,λk b=> ?_,Yv⟩
 have:=f.b1 k b;simp[Lit.wf,IntKind.min,IntKind.max,IntKind.signed,IntKind.bits];omega
theorem ES.ke(h:ES v r):RX v.wd v.C v.ks v.ps v.ls/\PN v.ps:=by have b:RX v.wd r.C r.ks r.ps r.ls:=h.run.rx (FJ h.wd.1 h.wd.2) ⟨by simp[r0],by simp[r0],by simp[r0],by simp[r0],by simp[r0]⟩;have a:=h.run.pn (by intro p f;cases f);have⟨⟨_,_,_,c⟩,d,e6,e⟩:=h.same;rw[c,d,e6,e]at b;rw[e6]at a;exact⟨b,a⟩
theorem ClTo.kb{g a:Int}{f:Dy}{e:Dv}{free:Nat}{u:UR}{o:Option (UR×Nat)}(h:ClTo a f e free d n u o):Ki g a f e free u->∀p∈o,Ki g a f e free p.1:=by
 induction h with
 |fin n u h=>intro b p c;cases c;exact b
 |old n u h hr=>intro b p c;cases c
 |full n u r h hr ht hd hf=>intro b p c;cases c;exact b
 |long n u r h hr ht hl=>intro b p c;cases c
 |step n u r o h hr ht hq hm hf hs ih=>exact λb=>ih (b.step ht hr hq hm hf)
theorem Qm(a:Int)(s:Zi):(Im a s).size<=5000:=by
 unfold Im;by_cases h:Bp 7 s ⟨#[]⟩ 0 ⟨#[]⟩ [] a=true
 .exact Ed.fg (e:=⟨7,s,⟨#[]⟩,0,⟨#[]⟩,[]⟩) h
 .unfold CY;rw[if_neg h];exact Az _
