import Derived.Test.YtckmnfhmoankmaaGreatDoorX10
import Derived.Test.YtckmnfhmoankmaaGreatDoorX11
set_option maxRecDepth 100000
set_option maxHeartbeats 16000000
namespace Go.Proofs.YtckmnfhmoankmaaGreatDoor
open Go.ChangeShapes Go.WideShapes Go.ChangeAt Go.RowKit _root_.Go.Proofs.Tryz
theorem Bb.same'{w e:Zh}{b:Nat}{f d given ae:Int}{T P L:Value}(h:Bb w b f d given ae T P L)(p:e.heap[b]?=w.heap[b]?)(q:b<e.heap.size):Bb e b f d given ae T P L:=by obtain⟨g,i,k,l,m,n,o,r⟩:=h;have c:=fun j=>World.cell?_of_block (a:=⟨b,j,none⟩) p;exact⟨(c 0).trans g,(c 1).trans i,(c 2).trans k,(c 3).trans l,(c 4).trans m,(c 5).trans n,(c 6).trans o,q⟩
theorem TF(base k:Nat)(T:Value)(b:Zj)(a:List Kd)(w:Zh)(h:FW w base T b a)(j:1<=k)(i:k+a.length *3+AI a<=100000000):
 Calls prog 58 #[T,Zg k] w fun e c=>e=.returned (Zg (k+a.length *3+AI a:Nat))/\FW c base T b (Cm k a)/\Tn (T.ownBlock.toList++b.filterMap Value.ownBlock) w c:=by
 have d:=h;rcases h.ai.2 with⟨rfl,l⟩|⟨g,f,m,rfl,_⟩
 ·obtain rfl:=List.length_eq_zero_iff.1 l;refine(LN none 0 k w).mono ?_;rintro e c ⟨rfl,rfl⟩;exact⟨by simp[AI],d,Tn.of (Below.refl _ _)⟩
 ·exact Tr base g f k b a w d j i
theorem TG(base k:Nat)(T:Value)(d:Zj)(a:List Kd)(w:Zh)(h:FW w base T d (Cm k a))(l:1<=k)(j:k+a.length *3+AI a<=100000000):
 Calls prog 119 #[T,Zg k] w fun e f=>e=.returned (Zg (k+a.length *3+AI a:Nat))/\Zz w f:=by
 have b:=h;rcases h.ai.2 with⟨rfl,c⟩|⟨g,i,m,rfl,_⟩
 ·rw[BW]at c;obtain rfl:=List.length_eq_zero_iff.1 c;refine(LO none 0 k w).mono ?_;rintro e f ⟨rfl,rfl⟩;exact⟨by simp[AI],Below.refl _ _⟩
 ·rw[BW]at b ⊢;exact Tt base g i k d a w b l j
theorem Vj(base k:Nat)(P:Value)(a:List Pd)(w:Zh)(h:w.ownsRow base 142 2 P a.length (Ab pC a))(l:1<=k)(f:k+a.length *2<=100000000):
 Calls prog 59 #[P,Zg k] w fun e b=>e=.returned (Zg (k+a.length *2:Nat))/\b.ownsRow base 142 2 P a.length (Ab pC (Ee k a))/\Tn P.ownBlock.toList w b:=by
 have c:=h;rcases h.2 with⟨rfl,m⟩|⟨g,d,n,rfl,_⟩
 ·obtain rfl:=List.length_eq_zero_iff.1 m;refine(Nh none 0 k w).mono ?_;rintro e b ⟨rfl,rfl⟩;exact⟨by simp,c,Tn.of (Below.refl _ _)⟩
 ·refine(UU base g d k a w c l f).mono ?_;rintro e b ⟨rfl,i,j⟩;exact⟨rfl,i,Tn.grown j (by simp[Value.ownBlock])⟩
theorem Vk(base k:Nat)(P:Value)(a:List Pd)(w:Zh)(h:w.ownsRow base 142 2 P a.length (Ab pC (Ee k a)))(i:1<=k)(d:k+a.length *2<=100000000):
 Calls prog 120 #[P,Zg k] w fun e b=>e=.returned (Zg (k+a.length *2:Nat))/\Zz w b:=by
 have f:=h;rcases h.2 with⟨rfl,j⟩|⟨g,c,l,rfl,_⟩
 ·obtain rfl:=List.length_eq_zero_iff.1 j;refine(Ni none 0 k w).mono ?_;rintro e b ⟨rfl,rfl⟩;exact⟨by simp,Below.refl _ _⟩
 ·exact UW base g c k a w f i d
theorem Rz(base k:Nat)(P:Value)(a:List Ld)(w:Zh)(h:w.ownsRow base 144 3 P a.length (Ab lC a))(l:1<=k)(f:k+a.length *3<=100000000):
 Calls prog 60 #[P,Zg k] w fun e b=>e=.returned (Zg (k+a.length *3:Nat))/\b.ownsRow base 144 3 P a.length (Ab lC (Ef k a))/\Tn P.ownBlock.toList w b:=by
 have c:=h;rcases h.2 with⟨rfl,m⟩|⟨g,d,n,rfl,_⟩
 ·obtain rfl:=List.length_eq_zero_iff.1 m;refine(Ll none 0 k w).mono ?_;rintro e b ⟨rfl,rfl⟩;exact⟨by simp,c,Tn.of (Below.refl _ _)⟩
 ·refine(Rk base g d k a w c l f).mono ?_;rintro e b ⟨rfl,i,j⟩;exact⟨rfl,i,Tn.grown j (by simp[Value.ownBlock])⟩
theorem RC(base k:Nat)(P:Value)(a:List Ld)(w:Zh)(h:w.ownsRow base 144 3 P a.length (Ab lC (Ef k a)))(i:1<=k)(d:k+a.length *3<=100000000):
 Calls prog 121 #[P,Zg k] w fun e b=>e=.returned (Zg (k+a.length *3:Nat))/\Zz w b:=by
 have f:=h;rcases h.2 with⟨rfl,j⟩|⟨g,c,l,rfl,_⟩
 ·obtain rfl:=List.length_eq_zero_iff.1 j;refine(Lm none 0 k w).mono ?_;rintro e b ⟨rfl,rfl⟩;exact⟨by simp,Below.refl _ _⟩
 ·exact Rl base g c k a w f i d
def CN(ks:List Kd)(ps:List Pd)(ls:List Ld):Nat:=ks.length *3+AI ks+ps.length *2+ls.length *3
theorem AV.gq{w:Zh}{base:Nat}{T P L:Value}{b:Zj}{a:List Kd}{d:List Pd}{c:List Ld}(h:AV w base T P L b a d c):FW w base T b a:=by
 refine⟨h.len,h.ai,h.refs,?_⟩;have:=h.nd;rw[Fp]at this;unfold Bk at this;generalize T.ownBlock=t at *
 generalize P.ownBlock=p at *
 generalize L.ownBlock=l at *
 cases t<;>cases p<;>cases l<;>simp_all<;>grind
theorem FW.same{w j:Zh}{base:Nat}{T:Value}{d:Zj}{g:List Kd}(h:FW w base T d g)(f:∀b,b<w.heap.size->b∈T.ownBlock.toList++d.filterMap Value.ownBlock->j.heap[b]?=w.heap[b]?):FW j base T d g:=
 ⟨h.len,Ak h.ai (fun b a=>f b (Ac h.ai a).2 (by simp[a])),fun i k r e c=>Ak (h.refs i k r e c) (fun b a=>f b (Ac (h.refs i k r e c) a).2 (List.mem_append_right _ (List.mem_filterMap.2 ⟨r,Zs c,a⟩))),h.nd⟩
theorem nd3{T P L:Option Nat}{R:List Nat}(h:(T.toList++(P.toList++(L.toList++R))).Nodup):(∀b∈T.toList++R,b∉P.toList/\b∉L.toList)/\(∀b∈P.toList,b∉T.toList++R/\b∉L.toList)/\(∀b∈L.toList,b∉T.toList++R/\b∉P.toList):=by cases T<;>cases P<;>cases L<;>simp_all<;>grind
theorem RD(D p given ae:Int)(base k:Nat)(T P L:Value)(g:Zj)(c:List Kd)(d:List Pd)(f:List Ld)(w:Zh)(h:AV w base T P L g c d f)(hk:1<=k)(C:k+CN c d f<=100000000):
 Calls prog 34 #[.agg #[Zg D,Zg p,Zg given,Zg ae,T,P,L],Zg k] w fun e w'=>e=.returned (Zg (k+CN c d f:Nat))/\AV w' base T P L g (Cm k c) (Ee (k+c.length *3+AI c) d) (Ef (k+c.length *3+AI c+d.length *2) f)/\Tn (Bk T P L g) w w':=by
 have G:=h.nd;rw[Fp]at G;obtain⟨n1,n2,n3⟩:=nd3 G;have j:Below w.heap.size w (w.alloc (.cells #[Zg D,Zg p,Zg given,Zg ae,T,P,L] 43)):=Zy;have s:=Bb.new w D p given ae T P L 43;obtain⟨W,S⟩:∃W,W=w.alloc (.cells #[Zg D,Zg p,Zg given,Zg ae,T,P,L] 43):=⟨_,rfl⟩;rw[←S]at j s;have O:∀b∈Bk T P L g,b<w.heap.size:=by
  intro b a;unfold Bk at a;simp only[List.mem_append,Option.mem_toList,List.mem_filterMap]at a;rcases a with a|a|a|⟨r,H,a⟩
  ·exact(Ac h.ai a).2
  ·exact(Ac h.pins a).2
  ·exact(Ac h.an a).2
  ·obtain⟨i,hi⟩:=List.getElem?_of_mem H;have zJ:=(Zw hi).1;have hl:=h.len;exact(Ac (h.refs i c[i] r (Zv (by omega)) hi) a).2
 obtain⟨n,o,rfl⟩:=Ar h.ai;obtain⟨v,y,rfl⟩:=Ar h.pins;obtain⟨t,u,rfl⟩:=Ar h.an;have q:=Yx h;have l:=Yx (Zn O (Zn n1 (Zn n2 n3)));have Z:=Yx S;have HX:=Yx s;have zH:w.heap.size<W.heap.size:=s.2.2.2.2.2.2.2;have zE:k+c.length *3+AI c<=100000000:=by unfold CN at C;omega
 have zF:k+c.length *3+AI c+d.length *2<=100000000:=by unfold CN at C;omega
 have zG:k+c.length *3+AI c+d.length *2+f.length *3<=100000000:=by unfold CN at C;omega
 obtain⟨x0,x1,x2,x3,x4,x5,x6,x7⟩:=s;clear h O n1 n2 n3 S G x0 x1 x2 x3 C;go_enter func34,ntmps34;go_upto_region 1 with fail;rw[←Z.o];clear Z;have K0:FW W base (.slice n c.length o) g c:=FW.same q.o.gq (fun b a _=>j.block b a);go_wp2_with fail;refine(TF base k _ g c W K0 hk zE).mono ?_;rintro e w1 ⟨rfl,z,A⟩
 have J:∀b∈(Value.slice n c.length o).ownBlock.toList++g.filterMap Value.ownBlock,b∈Bk (.slice n c.length o) (.slice v d.length y) (.slice t f.length u) g:=fun b a=>by
  unfold Bk;rcases List.mem_append.1 a with a|a
  ·exact List.mem_append_left _ a
  ·exact List.mem_append_right _ (List.mem_append_right _ (List.mem_append_right _ a))
 have N:∀{V:List Nat} {X Y:Zh},Tn V X Y->(∀b∈V,b∈Bk (.slice n c.length o) (.slice v d.length y) (.slice t f.length u) g)->W.heap.size<=X.heap.size->Bb X w.heap.size D p given ae (.slice n c.length o) (.slice v d.length y) (.slice t f.length u)->Bb Y w.heap.size D p given ae (.slice n c.length o) (.slice v d.length y) (.slice t f.length u):=fun ht hV hz s=>s.same' (ht.block _ (by omega) (fun e=>by have:=l.o.1 _ (hV _ e);omega)) (Zr (Zr zH hz) ht.size)
 have Q:=N A J (Zx) HX.o;have zA:=Q;obtain⟨_,_,_,_,_,y5,y6,_⟩:=zA;have p1:w1.ownsRow base 142 2 (.slice v d.length y) d.length (Ab pC d):=Ak (Ag q.o.pins j) (fun b a=>A.block b (Zr (Ac q.o.pins a).2 j.size) (l.o.2.2.1 b (by simp[a])).1);have E:=Yx (Zn z (Zn A Q));clear z A x4 x5 x6 K0 Q;go_wp2_with fail;refine(Vj base (k+c.length *3+AI c) _ d w1 p1 (by omega) zF).mono ?_;rintro e w2 ⟨rfl,F,m⟩
 have K:∀b∈(Value.slice v d.length y).ownBlock.toList,b∈Bk (.slice n c.length o) (.slice v d.length y) (.slice t f.length u) g:=fun b a=>by unfold Bk;exact List.mem_append_right _ (List.mem_append_left _ a)
 have R:=N m K E.o.2.1.size E.o.2.2;have zB:=R;obtain⟨_,_,_,_,_,_,z6,_⟩:=zB;have l2:w2.ownsRow base 144 3 (.slice t f.length u) f.length (Ab lC f):=Ak (Ak (Ag q.o.an j) (fun b a=>E.o.2.1.block b (Zr (Ac q.o.an a).2 j.size) (l.o.2.2.2 b (by simp[a])).1)) (fun b a=>m.block b (Zr (Zr (Ac q.o.an a).2 j.size) E.o.2.1.size) (l.o.2.2.2 b (by simp[a])).2);have H2:=Yx (Zn F (Zn m R));clear F m p1 y5 y6 R
 go_wp2_with fail;refine(Rz base (k+c.length *3+AI c+d.length *2) _ f w2 l2 (by omega) zG).mono ?_;rintro e w3 ⟨rfl,I,B⟩;have zC:∀b∈(Value.slice t f.length u).ownBlock.toList,b∈Bk (.slice n c.length o) (.slice v d.length y) (.slice t f.length u) g:=fun b a=>by unfold Bk;exact List.mem_append_right _ (List.mem_append_right _ (List.mem_append_left _ a))
 have H3:=Yx (Zn I B);clear I B l2 z6;go_wp2;go_ret;obtain⟨z,A,_⟩:=E.o;obtain⟨F,m,_⟩:=H2.o;obtain⟨I,B⟩:=H3.o;have zI:=A.size;have M:=m.size;refine⟨by rw[show k+CN c d f=k+c.length *3+AI c+d.length *2+f.length *3 by unfold CN;omega];rfl,⟨by rw[BW];exact q.o.len,?_,?_,?_,?_,q.o.nd⟩,(((Tn.of j).trans (A.mono J)).trans (m.mono K)).trans (B.mono zC)⟩
 ·exact Ak (Ak z.ai (fun b a=>m.block b (Ac z.ai a).2 (l.o.2.1 b (by simp[a])).1)) (fun b a=>B.block b (Zr (Ac z.ai a).2 M) (l.o.2.1 b (by simp[a])).2)
 ·intro i x r s H;have U:=z.refs i x r s H;have hm:∀b,r.ownBlock=some b->b∈(Value.slice n c.length o).ownBlock.toList++g.filterMap Value.ownBlock:=fun b a=>List.mem_append_right _ (List.mem_filterMap.2 ⟨r,Zs H,a⟩);exact Ak (Ak U (fun b a=>m.block b (Ac U a).2 (l.o.2.1 b (hm b a)).1)) (fun b a=>B.block b (Zr (Ac U a).2 M) (l.o.2.1 b (hm b a)).2)
 ·rw[EI];exact Ak F (fun b a=>B.block b (Ac F a).2 (l.o.2.2.1 b (by simp[a])).2)
 ·rw[FG];exact I
theorem AV.below{w e:Zh}{base:Nat}{T P L:Value}{rs:Zj}{b:List Kd}{d:List Pd}{c:List Ld}(h:AV w base T P L rs b d c)(a:Zz w e):AV e base T P L rs b d c:=
 ⟨h.len,Ag h.ai a,fun i k r f g=>Ag (h.refs i k r f g) a,Ag h.pins a,Ag h.an a,h.nd⟩
theorem RE(l j given ae:Int)(base k:Nat)(T P L:Value)(t:Zj)(a:List Kd)(b:List Pd)(f:List Ld)(w:Zh)(h:AV w base T P L t (Cm k a) (Ee (k+a.length *3+AI a) b) (Ef (k+a.length *3+AI a+b.length *2) f))(B:1<=k)(i:k+CN a b f<=100000000):
 Calls prog 63 #[.agg #[Zg l,Zg j,Zg given,Zg ae,T,P,L],Zg k] w fun e C=>e=.returned (Zg (k+CN a b f:Nat))/\Zz w C:=by
 have d:Below w.heap.size w (w.alloc (.cells #[Zg l,Zg j,Zg given,Zg ae,T,P,L] 43)):=Zy;have o:=Bb.new w l j given ae T P L 43;obtain⟨W,n⟩:∃W,W=w.alloc (.cells #[Zg l,Zg j,Zg given,Zg ae,T,P,L] 43):=⟨_,rfl⟩;rw[←n]at d o;obtain⟨ta,tc,rfl⟩:=Ar h.ai;obtain⟨Y,Z,rfl⟩:=Ar h.pins;obtain⟨V,X,rfl⟩:=Ar h.an;have m:=Yx (h.below d);have q:=Yx n;have r:=Yx o
 have v:k+a.length *3+AI a<=100000000:=by unfold CN at i;omega
 have x:k+a.length *3+AI a+b.length *2<=100000000:=by unfold CN at i;omega
 have y:k+a.length *3+AI a+b.length *2+f.length *3<=100000000:=by unfold CN at i;omega
 obtain⟨F,G,H,I,J,K,M,x7⟩:=o;clear h n F G H I i;go_enter func63,ntmps63;go_upto_region 1 with fail;rw[←q.o];clear q;go_wp2_with fail;refine(TG base k _ t a W m.o.gq B v).mono ?_;rintro e D ⟨rfl,c⟩;have z:=Bb.below r.o c;obtain⟨_,_,_,_,_,N,O,_⟩:=z;have p:=Ag m.o.pins c;rw[EI]at p;have R:¬(((k+a.length *3+AI a:Nat):Int)<0):=by omega
 clear J K M;rw[EI]at *
 go_wp2_with fail;refine(Vk base (k+a.length *3+AI a) _ b D p (by omega) x).mono ?_;rintro e E ⟨rfl,g⟩;have A:=Bb.below (Bb.below r.o c) g;obtain⟨_,_,_,_,_,_,Q,_⟩:=A;have s:=Ag (Ag m.o.an c) g;rw[FG]at *
 have S:¬(((k+a.length *3+AI a+b.length *2:Nat):Int)<0):=by omega
 clear N O p;go_wp2_with fail;refine(RC base (k+a.length *3+AI a+b.length *2) _ f E s (by omega) y).mono ?_;rintro e w3 ⟨rfl,u⟩;have U:¬(((k+a.length *3+AI a+b.length *2+f.length *3:Nat):Int)<0):=by omega
 clear Q s;go_wp2;go_ret;exact⟨by rw[show k+CN a b f=k+a.length *3+AI a+b.length *2+f.length *3 by unfold CN;omega];rfl,((d.trans (c.mono d.size)).trans (g.mono (Zm d.size c.size))).trans (u.mono (Zm (Zm d.size c.size) g.size))⟩
theorem RF{a:List Ld}{k:Nat}{x:Ld}(n:Int)(c:a[k]?=some x):AP (a.take (k+1)) n=AP (a.take k) n++(if x.bf<=n then []else [x]):=by obtain⟨b,rfl⟩:=Zw c;unfold AP;rw[Zu b,List.filter_append];by_cases h:a[k].bf<=n<;>simp[h]
def TH(w w':Zh)(e:Ending)(wd now given ae:Int)(T P:Value)(ls:List Ld)(ticks:Int):Prop:=
 Below w.heap.size w w'/\((1000000000<now+ticks/\e=.returned (.agg #[Zg 4,Zf,Zf,Zf,Zf,Zc,Zc,Zc,Zd,Zf,Zd,Zd]))∨
  (now+ticks<=1000000000/\∃g c,e=.returned (.agg #[Zf,Zg wd,Zg (now+ticks),Zg given,Zg ae,T,P,.slice (some ⟨g,0,none⟩) (AP ls (now+ticks)).length c,Zd,Zf,Zd,Zd])/\w'.ownsRow w.heap.size 144 3 (.slice (some ⟨g,0,none⟩) (AP ls (now+ticks)).length c) (AP ls (now+ticks)).length (Ab lC (AP ls (now+ticks)))))
theorem RG(r b given ae:Int)(o l y:Zk)(tn p n m B:Nat)(d:List Ld)(a:Int)(w:Zh)(j:Be w w.heap.size y d)(hl:d.length<=1000)(zC:0<=b)(zE:b<=1000000000)(zG:0<=a)(zH:a<=1000000000):
 Calls prog 87 #[.agg (Ys r b given ae o tn p l n m y d.length B),Zg a] w fun e w'=>TH w w' e r b given ae (.slice o tn p) (.slice l n m) d a:=by
 obtain⟨W,s⟩:∃W,W=(w.alloc (.cells (Ys r b given ae o tn p l n m y d.length B) 43)).alloc (.cells Yl 90):=⟨_,rfl⟩;have A:=(Bj s).1;have U:=(Bj s).2.1;have C:=(Bj s).2.2.1;have K:Aa W (w.heap.size+1) z12:=by have h1:=Aa.new (w.alloc (.cells (Ys r b given ae o tn p l n m y d.length B) 43)) z12 90;rw[World.size_alloc]at h1;rw[s];exact h1
 have zP:=Hb zC zE zG zH;have G:=Yx s;by_cases hbig:1000000000<b+a
 ·obtain⟨⟨y0,q0⟩,⟨y1,q1⟩,⟨y2,q2⟩,⟨y3,q3⟩,⟨y4,q4⟩,⟨y5,q5⟩,⟨y6,q6⟩,⟨y7,q7⟩,⟨y8,q8⟩,⟨y9,q9⟩,⟨E,zI⟩,F,zJ⟩:=AZ K;obtain⟨c1,_⟩:=C 1 _ rfl;have HB:=Yx A;have h:=Yx hbig;clear s C K j A U;go_enter func87,ntmps87;go_upto_region 1 with fail;rw[←G.o];clear G;go_wp2;refine bodyPost_ret (v:=.agg (Yk 4)) (by simp[results,results87,go_sem,y0,y1,y2,y3,y4,y5,y6,y7,y8,y9,E,F]) rfl ?_
  exact⟨HB.o.trans (Tn.below (Bq W (w.heap.size+1) _ _ _ _ _ _ _ _ _ _ _ _) HB.o.size (by intro v hv;simp at hv;omega)),.inl ⟨h.o,rfl⟩⟩
 ·obtain⟨X,H⟩:∃X,X=W.setCell (Ze (w.heap.size) 1) (Zg (b+a)):=⟨_,rfl⟩;have J:Tn [w.heap.size] W X:=by rw[H];exact EA _ _ _ _
  have D:w.heap.size+2<=X.heap.size:=by have:=J.size;omega
  have u0:Aa X w.heap.size (Yt r (b+a) given ae o tn p l n m y d.length B):=by rw[H];exact C.set 1 _
  have u1:=Aa.same K (J.block _ (by omega) (by simp));have HX:Hid (∀Y,Below (w.heap.size+2) X Y->Aa Y w.heap.size (Yt r (b+a) given ae o tn p l n m y d.length B)/\Aa Y (w.heap.size+1) z12):=fun Y hY=>⟨Aa.same u0 (hY.block _ (by omega)),Aa.same u1 (hY.block _ (by omega))⟩;have Q:=Yx H;have HR:=Yx j;have zA:=Yx (A.trans (J.below A.size (by simp)));have h:=Yx (Int.not_lt.1 hbig)
  have bA:Below X.heap.size X (X.alloc (.cells #[] 144)):=Zy;have O:Hid ((X.alloc (.cells #[] 144)).ownsRow (w.heap.size+2) 144 3 (Za X.heap.size 0 0) 0 []):=World.ownsRow_lit (base:=w.heap.size+2) (e:=144) (size:=3) X #[] 0 D (by unfold maxLen;omega) rfl;have L:Hid (Below (w.heap.size+2) X (X.alloc (.cells #[] 144))):=bA.mono D;obtain⟨c1,f1⟩:=C 1 _ rfl;clear s H U C K u0 u1 j A bA J
  go_enter func87,ntmps87;go_upto_region 1 with fail;rw[←G.o];clear G;go_upto_region 4 with fail;rw[←Q.o];clear Q c1 f1;go_wp2
  go_loopw [5,6] (fun v i wr=>∃(k g c:Nat),k<=d.length/\i=Zg k/\v=Za g (AP (d.take k) (b+a)).length c/\Hid (wr.ownsRow (w.heap.size+2) 144 3 (Za g (AP (d.take k) (b+a)).length c) (AP (d.take k) (b+a)).length (Ab lC (AP (d.take k) (b+a)))/\Below (w.heap.size+2) X wr)) (fun _ i _=>d.length -(intOf i).toNat)
  case atStart=>exact⟨0,X.heap.size,0,Nat.zero_le _,rfl,by simp[AP],⟨by simpa [AP,Ab]using O.o,L.o⟩⟩
  case round=>
   clear O L;obtain⟨k,g,c,hk,rfl,rfl,f⟩:=hrel;have u:=zA.o.trans (f.o.2.mono (by omega));have Z:=Zm D f.o.2.size;obtain⟨v0,v1,v2,v3,v4,v5,v6,v7⟩:=BG (HX.o _ f.o.2).1;by_cases hlt:k<d.length
   ·obtain⟨b',zR,ha,hb,R⟩:=(Be.below HR.o u).at hlt;subst ha;have HG:=Yx (Zv hlt);obtain⟨c0,c1,c2⟩:=R k _ HG.o;have P:=Yx (RF (b+a) HG.o);have zN:(AP (d.take k) (b+a)).length<=1000:=by have:=List.length_filter_le (fun x:Ld=> !decide (x.bf<=(b+a))) (d.take k);unfold AP;rw[List.length_take]at this;omega
    have zK:b'<wr.heap.size:=by have:=u.size;omega
    have zO:(k:Int)<d.length:=by omega
    clear R;generalize d[k]=x at *
    generalize hGk:AP (d.take k) (b+a)=gk at *
    have zM:=Yx hGk;clear hGk;by_cases hxn:x.bf<=(b+a)
    ·have I:decide ((b+a)<x.bf)=false:=by simp;omega
     have z:Hid (AP (d.take (k+1)) (b+a)=gk):=by show _=_;rw[P.o,if_pos hxn,List.append_nil]
     clear hxn;have M:Hid (wr.drew.ownsRow (w.heap.size+2) 144 3 (Za g gk.length c) gk.length (Ab lC gk)/\Below (w.heap.size+2) X wr.drew):=⟨Ag f.o.1 ((Below.refl _ _).drew),f.o.2.drew⟩;clear f;go_upto_region 8 with fail;go_region_with fail
     all_goals
      go_wp2;exact⟨⟨k+1,g,c,by omega,by go_num,by rw[z.o],⟨by rw[z.o];exact M.o.1,M.o.2⟩⟩,by simp[intOf];omega⟩
    ·have I:decide ((b+a)<x.bf)=true:=by simp;omega
     have z:Hid (AP (d.take (k+1)) (b+a)=gk++[x]):=by show _=_;rw[P.o,if_neg hxn]
     clear hxn;obtain⟨g8,t,w8,zF,T,S,zB⟩:=Nz wr.drew (w.heap.size+2) _ gk (Ag f.o.1 ((Below.refl _ _).drew)) x (by omega) Z 41;have b8:=(Below.refl _ _).grown S Z (fun q e=>(Ac f.o.1 e).1);have H8:Hid (w8.ownsRow (w.heap.size+2) 144 3 (Za g8 (gk.length+1) t) (gk++[x]).length (Ab lC (gk++[x]))/\Below (w.heap.size+2) X w8):=⟨T,f.o.2.drew.trans b8⟩;clear T S zB b8 f;go_upto_region 8 with fail
     go_region_with fail
     all_goals
      go_wp2_with (at_builtin;first|(refine wpList_append_run rfl _ _ 41 41 rfl rfl rfl zF ?_));go_wp2;exact⟨⟨k+1,g8,t,by omega,by go_num,by rw[z.o,List.length_append];rfl,⟨by rw[z.o,List.length_append];exact List.length_append▸H8.o.1,H8.o.2⟩⟩,by simp[intOf];omega⟩
   ·obtain rfl:k=d.length:=by omega
    have hO:=f.o.1;rw[Zt (Zx)]at hO ⊢;have HO:=Yx hO;have N:=Yx u;obtain⟨⟨y0,q0⟩,⟨y1,q1⟩,⟨y2,q2⟩,⟨y3,q3⟩,⟨y4,q4⟩,⟨y5,q5⟩,⟨y6,q6⟩,⟨y7,q7⟩,⟨y8,q8⟩,⟨y9,q9⟩,⟨E,zI⟩,F,zJ⟩:=AZ (HX.o _ f.o.2).2;have f6:=((HX.o _ f.o.2).1 6 _ rfl).2;clear hO u f;go_wp2
    refine bodyPost_ret (v:=.agg #[Zf,Zg r,Zg (b+a),Zg given,Zg ae,.slice o tn p,.slice l n m,Za g (AP d (b+a)).length c,Zd,Zf,Zd,Zd]) (by simp[results,results87,go_sem,y0,y1,y2,y3,y4,y5,y6,y7,y8,y9,E,F]) rfl ?_
    have T':=(Tn.set (V:=[w.heap.size,w.heap.size+1]) wr w.heap.size 6 (Za g (AP d (b+a)).length c) (by simp)).trans (Tn.mono (Bq (wr.setCell (Ze (w.heap.size) 6) (Za g (AP d (b+a)).length c)) (w.heap.size+1) Zf (Zg r) (Zg (b+a)) (Zg given) (Zg ae) (.slice o tn p) (.slice l n m) (Za g (AP d (b+a)).length c) Zd Zf Zd Zd) (by simp))
    exact⟨N.o.trans (T'.below N.o.size (by intro v hv;simp at hv;omega)),.inr ⟨h.o,g,c,rfl,(Ak HO.o (fun q I=>T'.block q (Ac HO.o I).2 (by have:=(Ac HO.o I).1;simp;omega))).mono (by omega)⟩⟩
theorem Hx.tn{V:List Nat}{w l:Zh}{lo g:Nat}{j:Zj}{f:List Kd}(h:Hx w lo g j f)(e:Tn V w l)(d:∀b∈V,b<lo):Hx l lo g j f:=
 ⟨h.len,BM h.ai e d,fun i k r a c=>BM (h.refs i k r a c) e (fun b m=>by have a:=d b m;have c:=(Ac h.ai (g:=g) rfl).1;omega),h.sm,h.inc⟩
theorem Hx.below{w c:Zh}{lo g:Nat}{rs:Zj}{b:List Kd}(h:Hx w lo g rs b)(a:Zz w c):Hx c lo g rs b:=
 ⟨h.len,Ag h.ai a,fun i k r d e=>Ag (h.refs i k r d e) a,h.sm,h.inc⟩
theorem Hx.gn{w:Zh}{lo g q r n1:Nat}{f:Zj}{e:List Kd}{c:List Pd}{a:List Ld}(h:Hx w lo g f e)(y:g<n1)(m:∀b∈f.filterMap Value.ownBlock,b<n1)(z:n1<=q)(A:q<r)(u:w.ownsRow lo 142 2 (Za q c.length c.length) c.length (Ab pC c))(t:w.ownsRow lo 144 3 (Za r a.length a.length) a.length (Ab lC a)):
 AV w lo (Za g e.length e.length) (Za q c.length c.length) (Za r a.length a.length) f e c a:=by
 have du:=(Ac h.ai (g:=g) rfl).1;refine⟨h.len,h.ai,fun i k x p s=>(h.refs i k x p s).mono (by omega),u,t,?_⟩;have j:∀b∈f.filterMap Value.ownBlock,g<b:=fun b j=>by
  obtain⟨x,v,o⟩:=List.mem_filterMap.1 j;obtain⟨i,l⟩:=List.getElem?_of_mem v;have n:i<e.length:=by rw[←h.len];exact(Zw l).1
  exact(Ac (h.refs i _ x (Zv n) l) o).1
 show(g::q::r::f.filterMap Value.ownBlock).Nodup;refine List.nodup_cons.2 ⟨?_,List.nodup_cons.2 ⟨?_,List.nodup_cons.2 ⟨fun d=> ?_,h.inc.imp (fun h=>Nat.ne_of_lt h)⟩⟩⟩
 ·simp only[List.mem_cons,not_or];exact⟨by omega,by omega,fun d=>by have:=j g d;omega⟩
 ·simp only[List.mem_cons,not_or];exact⟨by omega,fun d=>by have:=m q d;omega⟩
 ·have:=m r d;omega
theorem Hx.cf{w:Zh}{lo g:Nat}{d:Zj}{c:List Kd}(h:Hx w lo g d c):∀b∈d.filterMap Value.ownBlock,b<w.heap.size:=fun b j=>by
 obtain⟨x,k,f⟩:=List.mem_filterMap.1 j;obtain⟨i,a⟩:=List.getElem?_of_mem k;have e:i<c.length:=by rw[←h.len];exact(Zw a).1
 exact(Ac (h.refs i _ x (Zv e) a) f).2
theorem PG(j i given ae:Int)(a p l:Zk)(K M L:Nat)(f:List Kd)(d:List Pd)(h:List Ld)(w:Zh)(Q:BJ w w.heap.size a p l f d h)(hf:Qt f d h):
 Calls prog 24 #[.agg (Ys j i given ae a f.length K p d.length M l h.length L)] w fun e w'=>∃g q r C,e=.returned (.agg (Ys j i given ae (some ⟨g,0,none⟩) f.length f.length (some ⟨q,0,none⟩) d.length d.length (some ⟨r,0,none⟩) h.length h.length))/\AV w' w.heap.size (Za g f.length f.length) (Za q d.length d.length) (Za r h.length h.length) C f d h/\(∀x∈C,∃q n c,x=Za q n c)/\Zz w w':=by
 obtain⟨s,z⟩:∃W,W=((w.alloc (.cells (Ys j i given ae a f.length K p d.length M l h.length L) 29)).alloc (.cells Yu 43)).alloc (.cells #[Zg j,Zg i,Zg given,Zg ae,Zc,Zc,Zc] 43):=⟨_,rfl⟩;have E:Hid (Zz w s):=(Bh z).1;have yD:=(Bh z).2.1;have zG:Hid (Aa s w.heap.size (Yt j i given ae a f.length K p d.length M l h.length L)):=(Bh z).2.2.1;have zH:Hid (Aa s (w.heap.size+1) Yi):=(Bh (k:=Yi) z).2.2.2.1
 have zB:Hid (Aa s (w.heap.size+1+1) [Zg j,Zg i,Zg given,Zg ae,Zc,Zc,Zc]):=(Bh (m:=[Zg j,Zg i,Zg given,Zg ae,Zc,Zc,Zc]) z).2.2.2.2;have HR:Hid (∀X,Zz w X->BJ X X.heap.size a p l f d h):=fun X hX=>Q.af hX;have zR:=Yx z;clear z Q;go_enter func24,ntmps24;go_wp2_with fail;rw[←zR.o];clear zR;refine(OU a K f s (HR.o s E.o).k hf.k hf.r).mono ?_;rintro e T ⟨g,rfl,hg,D,A⟩;have z1:=A.size
 obtain⟨B,H⟩:∃X,X=T.setCell (Ze (w.heap.size+1+1) 4) (Za g f.length f.length):=⟨_,rfl⟩;have V:Tn [w.heap.size+1+1] T B:=by rw[H];exact Tn.set _ _ _ _ (by simp)
 have yE:B.heap.size=T.heap.size:=by rw[H];simp
 have Z:=Yx (Aa.same (Aa.below zG.o A) (V.block _ (by omega) (by simp<;>omega)));have zI:Hid (Aa B (w.heap.size+1) Yi):=Aa.same (Aa.below (v:=Zf) zH.o A) (V.block _ (by omega) (by simp<;>omega));have zC:Hid (Aa B (w.heap.size+1+1) (Yt j i given ae (some ⟨g,0,none⟩) f.length f.length none 0 0 none 0 0)):=by have U:=Aa.below zB.o A;show Aa B (w.heap.size+1+1) (Yt j i given ae (some ⟨g,0,none⟩) f.length f.length none 0 0 none 0 0);rw[H];exact U.set 4 _
 have F:Hid (Zz w B):=(E.o.trans (A.mono E.o.size)).trans (V.below (by omega) (by simp<;>omega));obtain⟨C,D⟩:=D.to;have zM:Hid (Hx B s.heap.size g C f):=D.tn V (by simp;omega);have HN:Hid (g<T.heap.size/\∀b∈C.filterMap Value.ownBlock,b<T.heap.size):=⟨(Ac D.ai (g:=g) rfl).2,D.cf⟩;clear D;obtain⟨e1,f1⟩:=Aa.below zB.o A 4 _ rfl;have zS:=Yx H;clear H;go_upto_region 7 with fail;rw[←zS.o]
 clear zS e1 f1 A V zG zH zB;obtain⟨y5,_⟩:=Z.o 5 _ rfl;go_wp2_with fail;refine(Qv p M d B (HR.o B F.o).p hf.p).mono ?_;rintro e w2 ⟨q,rfl,hq,zF,u⟩;have z2:=u.size;obtain⟨y,I⟩:∃X,X=w2.setCell (Ze (w.heap.size+1+1) 5) (Za q d.length d.length):=⟨_,rfl⟩;have S:Tn [w.heap.size+1+1] w2 y:=by rw[I];exact Tn.set _ _ _ _ (by simp)
 have yF:y.heap.size=w2.heap.size:=by rw[I];simp
 have zA:=Yx (Aa.same (Aa.below Z.o u) (S.block _ (by omega) (by simp<;>omega)));have zJ:Hid (Aa y (w.heap.size+1) Yi):=Aa.same (Aa.below (v:=Zf) zI.o u) (S.block _ (by omega) (by simp<;>omega));have zE:Hid (Aa y (w.heap.size+1+1) (Yt j i given ae (some ⟨g,0,none⟩) f.length f.length (some ⟨q,0,none⟩) d.length d.length none 0 0)):=by have U:=Aa.below zC.o u;show Aa y (w.heap.size+1+1) (Yt j i given ae (some ⟨g,0,none⟩) f.length f.length (some ⟨q,0,none⟩) d.length d.length none 0 0);rw[I];exact U.set 5 _
 have G:Hid (Zz w y):=(F.o.trans (u.mono F.o.size)).trans (S.below (by omega) (by simp<;>omega));have zN:Hid (Hx y s.heap.size g C f):=(zM.o.below u).tn S (by simp;omega);have zP:Hid (y.ownsRow s.heap.size 142 2 (Za q d.length d.length) d.length (Ab pC d)):=BM (zF.gn.mono (by omega)) S (by simp;omega);have HQ:Hid (q<w2.heap.size):=(Ac zF.gn (g:=q) rfl).2;clear zF zM y5
 obtain⟨e2,f2⟩:=Aa.below zC.o u 5 _ rfl;have zT:=Yx I;clear I;go_upto_region 8 with fail;rw[←zT.o];clear zT e2 f2 u S Z zI zC;obtain⟨y6,_⟩:=zA.o 6 _ rfl;go_wp2_with fail;refine(NO l L h y (HR.o y G.o).l hf.l).mono ?_;rintro e w3 ⟨r,rfl,hr,zV,o⟩;have z3:=o.size;obtain⟨t,J⟩:∃X,X=w3.setCell (Ze (w.heap.size+1+1) 6) (Za r h.length h.length):=⟨_,rfl⟩
 have N:Tn [w.heap.size+1+1] w3 t:=by rw[J];exact Tn.set _ _ _ _ (by simp)
 have yG:t.heap.size=w3.heap.size:=by rw[J];simp
 have yC:=Yx (Aa.same (Aa.below zA.o o) (N.block _ (by omega) (by simp<;>omega)));have zK:Hid (Aa t (w.heap.size+1) Yi):=Aa.same (Aa.below (v:=Zf) zJ.o o) (N.block _ (by omega) (by simp<;>omega));have zX:Hid (Aa t (w.heap.size+1+1) (Yt j i given ae (some ⟨g,0,none⟩) f.length f.length (some ⟨q,0,none⟩) d.length d.length (some ⟨r,0,none⟩) h.length h.length)):=by have U:=Aa.below zE.o o;show Aa t (w.heap.size+1+1) (Yt j i given ae (some ⟨g,0,none⟩) f.length f.length (some ⟨q,0,none⟩) d.length d.length (some ⟨r,0,none⟩) h.length h.length);rw[J];exact U.set 6 _
 have O:Hid (Zz w t):=(G.o.trans (o.mono G.o.size)).trans (N.below (by omega) (by simp<;>omega));have zO:Hid (Hx t s.heap.size g C f):=(zN.o.below o).tn N (by simp;omega);have zZ:Hid (t.ownsRow s.heap.size 142 2 (Za q d.length d.length) d.length (Ab pC d)):=BM (Ag zP.o o) N (by simp;omega)
 have zY:Hid (t.ownsRow s.heap.size 144 3 (Za r h.length h.length) h.length (Ab lC h)):=BM (zV.gn.mono (by omega)) N (by simp;omega);clear zV zN zP y6;obtain⟨e3,f3⟩:=Aa.below zE.o o 6 _ rfl;have zU:=Yx J;clear J;go_upto_region 9 with fail;rw[←zU.o];clear zU e3 f3 o N zA zJ zE
 obtain⟨W4,R⟩:∃X,X=t.setCells (w.heap.size+1) 0 (Yt j i given ae (some ⟨g,0,none⟩) f.length f.length (some ⟨q,0,none⟩) d.length d.length (some ⟨r,0,none⟩) h.length h.length):=⟨_,rfl⟩;have Y:Tn [w.heap.size+1] t W4:=by rw[R];exact Ax _ _ _ _
 have x4:Aa W4 (w.heap.size+1) (Yt j i given ae (some ⟨g,0,none⟩) f.length f.length (some ⟨q,0,none⟩) d.length d.length (some ⟨r,0,none⟩) h.length h.length):=by rw[R];exact zK.o.aw _ rfl
 have HS:Hid (AV W4 w.heap.size (Za g f.length f.length) (Za q d.length d.length) (Za r h.length h.length) C f d h):=(((zO.o.tn Y (by simp;omega)).gn (n1:=T.heap.size) HN.o.1 HN.o.2 (by omega) (by have:=HQ.o;omega) (BM zZ.o Y (by simp;omega)) (BM zY.o Y (by simp;omega))).mono (by omega));have zW:Hid (Zz w W4):=O.o.trans (Y.below O.o.size (by simp))
 have P:((Ys j i given ae (some ⟨g,0,none⟩) f.length f.length (some ⟨q,0,none⟩) d.length d.length (some ⟨r,0,none⟩) h.length h.length):Array Value).all (·.oneCell')=true:=by simp[Value.oneCell']
 have HI:=Yx (Zn P zK.o.there);have yB:=Yx x4;have yA:=Yx R;clear P x4 R Y;go_wp2_with (first
  |refine wpList_load_mid rfl 43 _ rfl (w.heap.size+1+1) 0 rfl (Yt j i given ae (some ⟨g,0,none⟩) f.length f.length (some ⟨q,0,none⟩) d.length d.length (some ⟨r,0,none⟩) h.length h.length) _ zX.o.range underlying43 rfl (by kernel_rfl) ?_
  |refine wpList_store_mid rfl 43 _ _ rfl (w.heap.size+1) 0 (Ys j i given ae (some ⟨g,0,none⟩) f.length f.length (some ⟨q,0,none⟩) d.length d.length (some ⟨r,0,none⟩) h.length h.length) rfl rfl HI.o.2 (by kernel_rfl) HI.o.1 ?_)
 rw[←yA.o];refine bodyPost_ret (BL results24 _ _ (w.heap.size+1) (Yt j i given ae (some ⟨g,0,none⟩) f.length f.length (some ⟨q,0,none⟩) d.length d.length (some ⟨r,0,none⟩) h.length h.length) _ rfl (Aa.range yB.o) underlying43 rfl (by kernel_rfl)) rfl ?_;exact⟨g,q,r,C,rfl,HS.o,zO.o.sm,zW.o⟩
end Go.Proofs.YtckmnfhmoankmaaGreatDoor
