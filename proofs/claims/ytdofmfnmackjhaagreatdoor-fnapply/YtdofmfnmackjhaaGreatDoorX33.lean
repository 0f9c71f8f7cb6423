import Derived.Test.YtdofmfnmackjhaaGreatDoorX19
import Derived.Test.YtdofmfnmackjhaaGreatDoorX31
set_option maxRecDepth 100000
set_option maxHeartbeats 16000000
namespace Go.Proofs.YtdofmfnmackjhaaGreatDoor
open ChangeShapes WideShapes ChangeAt RowKit _root_.Go.Proofs.Tryz List World Value
variable{w X Y:Zh}{b a size n c q g r:Nat}{e:TypeId}{v:Vd}{i:Zj}{V:List Nat}{T P L:Value}{d f p k m u:Int}{o:An}{l:Dy}{s:Zi}{z:Kd×Value}
theorem Abd{v:D4}{c:Zj}(h:w.ownsRow b e size v n c)(k:∀g,v.ownBlock=some g->a<=g):w.ownsRow a e size v n c:=by
 refine⟨h.1,?_⟩;rcases h.2 with i|⟨g,d,f,rfl,_,j⟩
 .exact .inl i
 .exact .inr ⟨g,d,f,rfl,k g rfl,j⟩
structure Ow (X:Zh) (base q:Nat) (e:TypeId) (size:Nat) (v:Value) (n:Nat) (xs:Zj):Prop where
 o:X.ownsRow base e size v n xs
 q:v.ownBlock≠some q
theorem Ow.K{v:D4}(h:Ow X a q e size v n i)(o:Tn V X Y)(m:∀g∈V,g<a\/g=q\/X.1.size<=g\/∃d f,f≠e/\X.1[g]?=some (.cells d f)):Ow Y a q e size v n i:=
 ⟨As h.o (λg c=>o.block g (Ac h.o c).2 (λj=>by
  have p:=Ac h.o c;rcases m g j with b|b|b|⟨d,f,k,b⟩
  .omega
  .exact h.q (b▸c)
  .omega
  .obtain⟨j,l⟩:=Cz h.o c;rw[l]at b;cases b;exact k rfl)),h.q⟩
structure Cg (X:Zh) (base q:Nat) (T P L:Value) (zs:List (Kd×Value)) (ps:List Pd) (ls:List Ld):Prop where
 t:Ow X base q 68 4 T zs.length (Ab kC zs)
 r:∀z∈zs,Ow X base q 9 1 z.2 z.1.B.length (z.1.B.map Value.string)
 p:Ow X base q 71 2 P ps.length (Ab pC ps)
 l:Ow X base q 73 3 L ls.length (Ab lC ls)
 w:Oc (zs.map (·.1)) ps ls
theorem Cg.K{j:List (Kd×Value)}{i:Dy}{d:Dv}(h:Cg X a q T P L j i d)(b:Tn V X Y)(l:∀g∈V,g<a\/g=q\/X.1.size<=g):Cg Y a q T P L j i d:=
 have f:∀{e:TypeId},∀g∈V,g<a\/g=q\/X.1.size<=g\/∃k c,c≠e/\X.1[g]?=some (.cells k c):=λg c=>by
  rcases l g c with h|h|h
  .exact .inl h
  .exact .inr (.inl h)
  .exact .inr (.inr (.inl h))
 ⟨h.t.K b f,λz c=>(h.r z c).K b f,h.p.K b f,h.l.K b f,h.w⟩
theorem Cg.A{base:Nat}{c:List (Kd×Value)}{b:Dy}{a:Dv}(h:Cg X base q T P L c b a)(d:Zz X Y):Cg Y base q T P L c b a:=h.K (V:=[]) (Tn.of d) Yu
theorem Cg.sdc{f:Nat}{m:List (Kd×Value)}{p:Dy}{o:Dv}(h:Cg X f q T P L m p o)(s j b a:Int):Qg X [Zg s,Zg j,Zg b,Zg a,T,P,L]:=by
 obtain⟨B,C,rfl⟩:=Aq h.t.o;obtain⟨w,x,rfl⟩:=Aq h.p.o;obtain⟨u,v,rfl⟩:=Aq h.l.o;refine⟨s,j,b,a,B,C,w,x,u,v,m.map (·.1),p,o,by rw[A9],⟨Wl h.t.o (λz d=> ?_),AU.own h.p.o,AS.own h.l.o⟩,h.w,λA l i k t r n=> ?_,CF h.p.o,CF h.l.o⟩
 .have c:=(h.r z d).o;have⟨y,r,e⟩:=Aq c;rw[e]at c;exact⟨y,r,e,LA c⟩
 .obtain⟨z,d,rfl⟩:∃z,m[i]?=some z/\z.1=k:=D2 t
  have E:=(Zw d).1;rcases h.t.o.2 with⟨e,_⟩|⟨g,t,D,e,_⟩
  .injection e with e1;rw[l]at e1;cases e1
  .cases e;cases l;have c:=h.t.o.cellAt (i *4+3) Yv;rw[BN Cn d Yq]at c;have l:some z.2=some _:=(c.symm.ah (D2 n));injection l with l;have n:=(h.r z (Zs d)).o;rw[l]at n;exact CF n rfl
theorem Ba.jg{o:Nat}{c:Zj}{d:Dj}{k:Dv}(h:Ba X o T P L c d l k)(m:∀g∈BX T P L c,b<=g/\g≠q)(w:Oc d l k):Cg X b q T P L (d.zip c) l k:=by
 have u:(d.zip c).map (·.1)=d:=map_fst_zip (by rw[h.len];exact Zx);have t:(d.zip c).length=d.length:=by rw[length_zip,h.len,Nat.min_self]
 have j:∀{e:TypeId} {s:Nat} {v:D4} {n:Nat} {xs:Zj},X.ownsRow o e s v n xs->(∀g,v.ownBlock=some g->g∈BX T P L c)->Ow X b q e s v n xs:=λf a=>
  ⟨Abd f (λg f=>(m g (a g f)).1),λf=>(m q (a q f)).2 rfl⟩
 have a:∀v∈T::P::L::c,∀g,v.ownBlock=some g->g∈BX T P L c:=λv a g f=>by rw[<-Fo];exact mem_filterMap.2 ⟨v,a,f⟩
 refine⟨by rw[t];exact j h.ak (a T Yu),λz f=> ?_,j h.pins (a P Yu),j h.au (a L Yu),by rw[u];exact w⟩;have⟨i,p⟩:=A5 f;have⟨r,f⟩:=getElem?_zip_eq_some.1 p;exact j (h.B i z.1 z.2 r f) (a z.2 (by simp[Zs f]))
theorem MnP.jg{c:Zh}{e:Ending}(h:MnP w n e c)(x:n<=1000)(y:q<w.1.size+2):∃g i d,e=C5 (.agg #[Zg 8,Ze,Ze,Zg n,C3 g d.length i,Zb,Zb])/\Cg c (w.1.size+2) q (C3 g d.length i) Zb Zb d [] []/\Zz w c:=by
 obtain⟨T,d,rfl,b,a,u,l⟩:=h.ex;obtain⟨g,i,rfl⟩:=Aq b;have f:∀{e:TypeId} {s:Nat} {v:D4} {n:Nat} {xs:Zj},c.ownsRow (w.1.size+2) e s v n xs->Ow c (w.1.size+2) q e s v n xs:=λb=>⟨b,λj=>Dz (Ac b j).1⟩
 refine⟨g,i,d,rfl,⟨f b,λz j=>f (a z j).row,f (ownsRow_nil _ _ _ _),f (ownsRow_nil _ _ _ _),⟨λk o=> ?_,by rw[A9];omega,Yu,Az _,Yu,Az _⟩⟩,l⟩;obtain⟨z,j,rfl⟩:=mem_map.1 o;have a:=a z j;have p:=a.j;have r:=a.tx;have t:=a.rl;have m:(1048576:Nat)<=maxLen:=Yo
 exact⟨Yv,Yv,Yv,λs o=>Dz (a.rs s o),ZE a.bo.1 (Dz a.bo.2)⟩
theorem Abe{A:Type}{c:A->Zj}{d bytes:Nat}{m:TypeId}{k:TypeInfo}{p:D4}(hlen:∀x,(c x).length=d)(K:prog.underlying m=some (.slice e))(H:prog.info? e=some k)(y:k.zero=some p)(z:k.size=d)(B:k.bytes=bytes)(C:p.cells.size=d)(t:0<d)(r:bytes<=64)(w:Zh)(a:Nat)(v:D4)(b:List A)(x:A)(I:w.ownsRow a e d v b.length (Ab c b))(q:Nat)(G:Aa w q (c x))(D:∀u∈c x,u.oneCell'=true)(M:b.length<=1000000)(h:a<=w.1.size)(o:TypeId):
 ∃g f l,(Builtin.append_ #[m,m] o #[v,Yz q 1 1]).run prog w=.ok (Yz g (b.length+1) f) l/\l.ownsRow a e d (Yz g (b.length+1) f) (b++[x]).length (Ab c (b++[x]))/\w.grownBy l v.ownBlock/\(v.ownBlock=some g\/g=w.1.size):=by
 have s:Ab c [x]=c x:=by simp[Ab]
 obtain⟨N,l,J,n,E,F,i⟩:=run_append_own_at (P:=prog) w a m o e k _ d bytes K H y z B C t v b.length (Ab c b) I ⟨q,0,none⟩ 1 1 (c x) (by rw[hlen];omega) (λj u L=>by rw[A3,A0];exact(G j u L).1) D Yo (Zm (Nat.mul_le_mul_left _ r) Yv) h;obtain⟨g,f,rfl,_,_⟩:=BF n (λe=>Dz (F.1 e).2)
 refine⟨g,f,l,J,by rw[Fb,s,Ak];exact n,E,?_⟩;rcases i with i|i
 .exact .inl i.symm
 .exact .inr (by simpa [ownBlock]using i)
theorem Wz(w:Zh)(a:Nat)(v:D4)(b:Dy)(x:Pd)(m:w.ownsRow a 71 2 v b.length (Ab pC b))(q:Nat)(j:Aa w q [C4 x.name,C4 x.sum])(l:b.length<=1000000)(d:a<=w.1.size)(h:TypeId):
 ∃g e f,(Builtin.append_ #[24,24] h #[v,Yz q 1 1]).run prog w=.ok (Yz g (b.length+1) e) f/\f.ownsRow a 71 2 (Yz g (b.length+1) e) (b++[x]).length (Ab pC (b++[x]))/\w.grownBy f v.ownBlock/\(v.ownBlock=some g\/g=w.1.size):=by
 have⟨n,k,e,f,i⟩:=info_parts GP;exact Abe (c:=pC) Ce underlying24 k e f i rfl Yq Yq w a v b x m q j (by simp[pC,oneCell']) l d h
theorem Ada(w:Zh)(a:Nat)(v:D4)(b:Dv)(x:Ld)(m:w.ownsRow a 73 3 v b.length (Ab lC b))(q:Nat)(j:Aa w q [Zg x.G,C4 x.sum,Zg x.S])(l:b.length<=1000000)(d:a<=w.1.size)(h:TypeId):
 ∃g e f,(Builtin.append_ #[25,25] h #[v,Yz q 1 1]).run prog w=.ok (Yz g (b.length+1) e) f/\f.ownsRow a 73 3 (Yz g (b.length+1) e) (b++[x]).length (Ab lC (b++[x]))/\w.grownBy f v.ownBlock/\(v.ownBlock=some g\/g=w.1.size):=by
 have⟨n,k,e,f,i⟩:=info_parts Gm;exact Abe (c:=lC) CR underlying25 k e f i rfl Yq Yq w a v b x m q j (by simp[lC,oneCell']) l d h
theorem Qn:∀{zs:List (Kd×Value)} {i:Nat} {z:Kd×Value},zs[i]?=some z->∀(t:Zi) (ss:Zl) (rv:D4),((Ab kC zs).set (i *4+2) (C4 t)).set (i *4+3) rv=Ab kC (zs.set i (⟨z.1.sum,z.1.born,t,ss⟩,rv))
 |[],i,_,h,_,_,_=>by simp at h
 |z::zs,0,x,h,t,ss,rv=>by simp at h;subst h;simp[Ab,kC]
 |z::zs,i+1,x,h,t,ss,rv=>by
  have b:zs[i]?=some x:=D2 h
  have c:=Qn b t ss rv;have e:Ab kC (z::zs)=kC z++Ab kC zs:=by simp[Ab]
  have a:Ab kC ((z::zs).set (i+1) (⟨x.1.sum,x.1.born,t,ss⟩,rv))=kC z++Ab kC (zs.set i (⟨x.1.sum,x.1.born,t,ss⟩,rv)):=by simp[Ab]
  rw[e,a,<-c,show(i+1) *4+2=(kC z).length+(i *4+2) by rw[Cn];omega,show(i+1) *4+3=(kC z).length+(i *4+3) by rw[Cn];omega];rw[set_append_right _ _ Yv,Nat.add_sub_cancel_left,set_append_right _ _ Yv,Nat.add_sub_cancel_left]
theorem ZI{A:Type}{l:List A}{i:Nat}{x y:A}(h:y∈l.set i x):y∈l\/y=x:=by
 rcases List.mem_or_eq_of_mem_set h with h|h
 .exact .inl h
 .exact .inr h
theorem Ow.other{d:TypeId}{v f:D4}{s:Nat}{l:Zj}(h:Ow X a q e size v n i)(m:Ow X a q d c f s l)(k:d≠e)(r:Tn f.ownBlock.toList X Y):Ow Y a q e size v n i:=
 h.K r (λb p=>by
  obtain⟨j,o⟩:=Cz m.o (g:=b) (D2 p);exact .inr (.inr (.inr ⟨j,_,k,o⟩)))
theorem Cg.ak{T':D4}{i c:List (Kd×Value)}{g:Dy}{f:Dv}(h:Cg X a q T P L i g f)(d:Tn T.ownBlock.toList X Y)(j:Ow Y a q 68 4 T' c.length (Ab kC c))(e:∀z∈c,z∈i\/Ow X a q 9 1 z.2 z.1.B.length (z.1.B.map string)/\XH z.1)(m:c.length<=1048576):Cg Y a q T' P L c g f:=by
 refine⟨j,λy b=> ?_,h.p.other h.t Yq d,h.l.other h.t Yq d,⟨λk l=> ?_,by rw[A9];exact m,h.w.p,h.w.pn,h.w.l,h.w.ln⟩⟩
 .rcases e y b with b|b
  .exact(h.r y b).other h.t Yq d
  .exact b.1.other h.t Yq d
 .obtain⟨y,b,rfl⟩:=mem_map.1 l;rcases e y b with b|b
  .exact h.w.k _ (mem_map.2 ⟨y,b,rfl⟩)
  .exact b.2
theorem Cg.pins{d:D4}{g:List (Kd×Value)}{f b:Dy}{e:Dv}(h:Cg X a q T P L g f e)(c:Tn P.ownBlock.toList X Y)(i:Ow Y a q 71 2 d b.length (Ab pC b))(l:∀p∈b,p∈f\/p.name.size<=maxLen/\p.sum.size<=maxLen)(j:b.length<=1048576):Cg Y a q T d L g b e:=
 ⟨h.t.other h.p Yq c,λy k=>(h.r y k).other h.p Yq c,i,h.l.other h.p Yq c,⟨h.w.k,h.w.kn,λp k=>(l p k).elim (h.w.p p) id,j,h.w.l,h.w.ln⟩⟩
theorem Cg.au{e:D4}{i:List (Kd×Value)}{g:Dy}{f b:Dv}(h:Cg X a q T P L i g f)(c:Tn L.ownBlock.toList X Y)(j:Ow Y a q 73 3 e b.length (Ab lC b))(m:∀l∈b,l∈f\/l.sum.size<=maxLen)(d:b.length<=1048576):Cg Y a q T P e i g b:=
 ⟨h.t.other h.l Yq c,λy k=>(h.r y k).other h.l Yq c,h.p.other h.l Yq c,j,⟨h.w.k,h.w.kn,h.w.p,h.w.pn,λl d=>(m l d).elim (h.w.l l) id,d⟩⟩
theorem Cg.setT{f:List (Kd×Value)}{r:Dy}{p:Dv}(h:Cg X a q (Yz g n c) P L f r p){i:Nat}(k:f[i]?=some z){t:Zi}{b:Zl}{rv:D4}(v:Ow X a q 9 1 rv b.length (b.map string))(x:t.size<=maxLen)(u:b.length<=1048576)(w:∀s∈b,s.size<=maxLen):
 Cg ((X.setCell (Zd g (i *4+2)) (C4 t)).setCell (Zd g (i *4+3)) rv) a q (Yz g n c) P L (f.set i (⟨z.1.sum,z.1.born,t,b⟩,rv)) r p:=by
 have m:=h.t.o;have⟨B,A,e,_,_⟩:=BF m (λe=>by cases e);cases e;have j:=((m.stored (i *4+2) (C4 t)).1.stored (i *4+3) rv).1;rw[Qn k t b rv]at j;have o:=h.w.k z.1 (mem_map.2 ⟨z,Zs k,rfl⟩);have l:=h.w.kn;rw[A9]at l;refine h.ak (Tn.ah (AP X g _ _) (AP _ g _ _)) ⟨by rw[length_set];exact j,h.t.q⟩ (λy d=> ?_) (by rw[length_set];exact l);rcases ZI d with d|d
 .exact .inl d
 .rw[d];exact .inr ⟨v,o.s,x,u,w,o.b⟩
theorem Cg.setB{i:List (Kd×Value)}{o:Dy}{m:Dv}(h:Cg X a q (Yz g n c) P L (z::i) o m){b:Int}(p:(Lit.int .i64 b).wf=true):
 Cg (X.setCell (Zd g 1) (Zg b)) a q (Yz g n c) P L ((⟨z.1.sum,b,z.1.J,z.1.B⟩,z.2)::i) o m:=by
 have l:=h.t.o;have⟨s,r,e,_,_⟩:=BF l (λe=>by cases e);cases e;have j:=(l.stored 1 (Zg b)).1;rw[show(Ab kC (z::i)).set 1 (Zg b)=Ab kC ((⟨z.1.sum,b,z.1.J,z.1.B⟩,z.2)::i)from by simp[Ab,kC]]at j;have f:=h.w.k z.1 (mem_map.2 ⟨z,Yu,rfl⟩);have k:=h.w.kn;rw[A9]at k;refine h.ak (AP X g _ _) ⟨j,h.t.q⟩ (λy d=> ?_) k;rcases Bv.1 d with d|d
 .rw[d];exact .inr ⟨h.r z Yu,f.s,f.t,f.n,f.r,p⟩
 .exact .inl (by simp[d])
theorem Cg.jl{j:List (Kd×Value)}{i:Dy}{l:Ld}{a:Dv}(h:Cg X b q T P (Yz g n c) j i (l::a))(x:Int):
 Cg (X.setCell (Zd g 2) (Zg x)) b q T P (Yz g n c) j i (⟨l.G,l.sum,x⟩::a)/\Cg (X.setCell (Zd g 0) (Zg x)) b q T P (Yz g n c) j i (⟨x,l.sum,l.S⟩::a):=by
 have f:=h.l.o;have⟨u,t,e,_,_⟩:=BF f (λe=>by cases e);cases e;have m:=(f.stored 2 (Zg x)).1;have o:=(f.stored 0 (Zg x)).1;rw[show(Ab lC (l::a)).set 2 (Zg x)=Ab lC (⟨l.G,l.sum,x⟩::a)from by simp[Ab,lC]]at m;rw[show(Ab lC (l::a)).set 0 (Zg x)=Ab lC (⟨x,l.sum,l.S⟩::a)from by simp[Ab,lC]]at o;have r:=h.w.l l Yu;have p:∀y:Ld,y.sum=l.sum->∀k∈y::a,k∈l::a\/k.sum.size<=maxLen:=λy s k d=>by
  rcases Bv.1 d with d|d
  .rw[d,s];exact .inr r
  .exact .inl (by simp[d])
 exact⟨h.au (AP X g _ _) ⟨m,h.l.q⟩ (p _ rfl) h.w.ln,h.au (AP X g _ _) ⟨o,h.l.q⟩ (p _ rfl) h.w.ln⟩
structure Eh (w:Zh) (b:Nat) (a:Zk) (n c:Nat) (p K:Int) (q:Nat) (X:Zh):Prop where
 ex:∃wd now given births T P L zs ps ls,Aa X q [Zg wd,Zg now,Zg given,Zg births,T,P,L]/\Cg X (w.1.size+2) q T P L zs ps ls
 z:Aa X (w.1.size+1) z7
 rd:∃p',AD X b a n c p'/\p<=p'/\p'<=p+K
 gr:w.grownBy X (some b)
structure UW (w:Zh) (b:Nat) (a:Zk) (n c:Nat) (p K:Int) (e:Ending) (w':Zh):Prop where
 ex:∃cs,e=.returned (.agg cs.toArray)/\∀V Y,(∀g∈V,g<w.1.size)->Tn V w' Y->Qg Y cs
 I:GJ w w' b a n c p K
theorem Dt(h:w.grownBy X (some b))(a:Tn V X Y)(f:∀g∈V,w.1.size<=g\/g=b):w.grownBy Y (some b):=
 ⟨a.os.ah h.os,a.tape.ah h.tape,a.output.ah h.output,Zm h.size a.size,λi d c=>(a.block i (Zr d h.size) (λe=>by rcases f i e with h|h;omega;exact c (by rw[h]))).ah (h.block i d c)⟩
theorem Cg.fin{a:Zk}{K:Int}{e:Nat}{v:Int}{x:List (Kd×Value)}{u:Dy}{t:Dv}(o:Cg X e q T P L x u t)(s:∃h,AD X b a n c h/\p<=h/\h<=p+K)(i:w.grownBy X (some b))(A:b<w.1.size)(j:Tn [r] X Y)(y:w.1.size<=r)(z:r<e):UW w b a n c p K (.returned (.agg #[Zg v,Zg k,Zg f,Zg d,T,P,L])) Y:=by refine⟨⟨_,rfl,λV Z m l=>((o.K j Yt).K l (λg i=> .inl (Dz (m g i)))).sdc _ _ _ _⟩,?_,Dt i j Yt⟩;obtain⟨h,l,m⟩:=s;exact⟨h,l.K j Yt Yt,m⟩
theorem Eh.fin{a:Zk}{K:Int}{e:Int}{o:List (Kd×Value)}{k:Dv}(h:Eh w b a n c p K q X)(g:Cg X (w.1.size+2) q T P L o l k)(i:b<w.1.size)(j:Tn [w.1.size+1] X Y):UW w b a n c p K (.returned (.agg #[Zg m,Zg f,Zg e,Zg d,T,P,L])) Y:=by exact g.fin h.rd h.gr i j Yv Yv
def Je(wd lim:Int)(ss tt:Zl)(o:An):Vd:=⟨wd,lim,ss,tt,o.wd,o.D,o.F,o.C,o.ks,o.ps,o.ls,0,[],[],0,0,0⟩
theorem WA{a lim:Int}{b c:Zl}(d:((1<=a/\a<=8)/\(0<=lim/\lim<=1000000)/\Cv b c=true))(h:RK a (b++c) o):(o.code≠0/\GC a lim b c 2 v0)\/(o.code=0/\GC a lim b c 0 (Je a lim b c o)):=by
 rcases h with⟨h,_⟩|⟨_,⟨n,h,rfl⟩|⟨r,h,rfl⟩⟩
 .exact absurd ⟨d.1,EM d.2.2⟩ h
 .exact .inl ⟨Yu,.inr ⟨d,.inl ⟨⟨n,h⟩,rfl,rfl⟩⟩⟩
 .exact .inr ⟨rfl,.inr ⟨d,.inr ⟨r,h,rfl,rfl⟩⟩⟩
theorem UX{j a d:Zh}{q:Zj}{x y k l:Nat}{s:Int}{b c:Zl}(m:Ba a j.1.size T P L q o.ks o.ps o.ls)(t:Zz a d)(p:d.ownsRow a.1.size 9 1 (Yz x b.length k) b.length (b.map string))(i:d.ownsRow a.1.size 9 1 (Yz y c.length l) c.length (c.map string))(r:x≠y)(e:j.1.size<=a.1.size):
 AM d j.1.size (Yz x b.length k) (Yz y c.length l) T P L Zb Zb q (Je u s b c o):=by
 have f:=m.A t;have v:=(p.lt x rfl).1;have w:=(i.lt y rfl).1;refine⟨Ar.own (p.aj e),Ar.own (i.aj e),f,Ar.nil _ _,Ar.nil _ _,?_⟩;have n:=f.nd;rw[Fo]at n;have g:=m.dj;unfold DZ;simp only[Ap,Option.toList_some,Option.toList_none,append_nil,singleton_append];refine nodup_cons.2 ⟨λh=> ?_,nodup_cons.2 ⟨λh=> ?_,n⟩⟩
 .rcases Bv.1 h with h|h
  .exact r h
  .have:=g x h;omega
 .have:=g y h;omega
theorem Oe(j lim:Int)(a b:Zk)(c d:Nat)(f i:Zl)(w:Zh)(m:Af w w.1.size a f)(l:Af w w.1.size b i)(ha:a=none->f.length=0/\c=0)(hb:b=none->i.length=0/\d=0)(hl:f.length<=1048576)(zF:i.length<=1048576)(u:∀s∈f,s.size<=1048576)(x:∀s∈i,s.size<=1048576):
 D8 85 #[Zg j,Zg lim,.agg #[C3 a f.length c,C3 b i.length d]] w (Acx j lim f i w):=by
 have⟨W,k⟩:=Ae ((w.alloc (.cells #[C1 a f c,C1 b i d] 96)).alloc (.cells Xp 100));have J:=(Bi k).1;have zW:=(Bi k).2.1;have n:=(Bi k).2.2.1;have p:Aa W (w.1.size+1) Xo:=by have h1:=Aa.new (w.alloc (.cells #[C1 a f c,C1 b i d] 96)) Xo 100;rw[Al]at h1;rw[k];exact h1
 have D:Hid (Aa W _ _):=(Bi k).2.2.1;have F:Hid (Aa W (w.1.size+1) Xo):=p;have Z:Hid (∀X,Zz w X->Af X X.1.size a f/\Af X X.1.size b i):=λX C=>⟨m.T C,l.T C⟩;have y:=Yw k;have I:=Yw (Fy j W);have Q:=Yw (CS lim 0 1000000 W);have V:=Yw (En a b c d f i W w.1.size J.size (m.A J) (l.A J) hl zF u x);obtain⟨z,B⟩:=Aa.c2 n 0 1;clear k n p m l;go_enter func85,ntmps85;go_wp2_with fail;rw[<-y.o]
 refine I.Ai ?_;rintro e w1 ⟨rfl,G⟩;replace G:=G.symm;subst G;by_cases hwd:1<=j/\j<=8
 case' neg=>
  rw[decide_eq_false hwd];have zA:Hid (GC j lim f i 1 v0):=.inl ⟨λh=>hwd h.1,rfl,rfl⟩;have U:Hid (Aa _ _ _):=F.o;have R:Hid (Below _ _ _):=J;clear z B D;obtain⟨X,rfl⟩:=Ae W
 case' pos=>
  rw[decide_eq_true hwd];go_wp2_with fail;refine Q.Ai ?_;rintro e w1 ⟨rfl,G⟩;replace G:=G.symm;subst G;by_cases hlim:0<=lim/\lim<=1000000
  case' neg=>
   rw[decide_eq_false hlim];have zA:Hid (GC j lim f i 1 v0):=.inl ⟨λh=>hlim h.2.1,rfl,rfl⟩;have U:Hid (Aa _ _ _):=F.o;have R:Hid (Below _ _ _):=J;clear z B D;obtain⟨X,rfl⟩:=Ae W
  case' pos=>
   rw[decide_eq_true hlim];go_wp2_with fail;refine V.Ai ?_;rintro e O ⟨rfl,r⟩;cases hlog:Cv f i
   case' false=>
    have zA:Hid (GC j lim f i 1 v0):=.inl ⟨λh=>by rw[hlog]at h;exact absurd h.2.2 Yu,rfl,rfl⟩;have U:Hid (Aa O (w.1.size+1) Xo):=Aa.A (v:=Ze) F r;have R:Hid (Zz w O):=J.ah (r.aj J.size);clear z B r D;obtain⟨X,rfl⟩:=Ae O
   case' true=>
    have yB:=EM hlog;have⟨N,t⟩:=Ae (f++i);have HA:Hid (∀X,Zz w X->D8 105 #[.agg #[C1 a f c,C1 b i d]] X λe H=>∃g E,e=C5 (C7 g N E)/\H.ownsRow X.1.size 9 1 (C7 g N E) N.length (N.map string)/\Zz X H):=λX C=>by rw[t];exact NK a b c d f i X (Z X C).1 (Z X C).2 ha hb hl zF
    have HS:Hid (∀(X:Zh) (g E:Nat),Af X X.1.size (some ⟨g,0,none⟩) N->D8 104 #[Zg j,C7 g N E] X λe H=>∃(o:An) (p:Zk) (q:Nat) (m:Zk) (n:Nat) (k:Zk) (l:Nat) (M:Zj),e=C5 (.agg #[Zg o.code,Zg o.wd,Zg o.D,Zg o.F,Zg o.C,C1 p o.ks q,C1 m o.ps n,C1 k o.ls l,C4 o.j,Zg o.le,C4 o.a,C4 o.b])/\RK j (f++i) o/\Ba H X.1.size (C1 p o.ks q) (C1 m o.ps n) (C1 k o.ls l) M o.ks o.ps o.ls/\Zz X H):=λX g E h=>by
     refine(KX j _ _ N X h (by rw[t];omega) (λs A=>by rw[t]at A;rcases A7.1 A with h|h;exact u s h;exact x s h)).aj ?_;rintro e H ⟨o,T,P,L,M,A,rfl,hS,hb⟩;obtain⟨p,q,m,n,k,l,rfl,rfl,rfl,_⟩:=hS.rows;exact⟨o,p,q,m,n,k,l,M,rfl,t▸A,hS,hb⟩
    have HG:=Yw (Za hwd (Za hlim hlog));clear u x t;have u:=Aa.A D r;have s:=Yw u;have x:Hid (Aa O (w.1.size+1) Xo):=Aa.A (v:=Ze) F r;have z2:w.1.size+2<=O.1.size:=Dz r.size
    have t:Hid (Zz w O):=J.ah (r.aj J.size);clear z B I Q V r y D F;obtain⟨z,B⟩:=Aa.c2 u 0 1;clear u;go_wp2_with fail;refine(HA O t).aj ?_;rintro e Q ⟨g,E,rfl,D,r⟩;have u:Hid (Aa Q w.1.size [C1 a f c,C1 b i d]):=Aa.A s r;have K:Hid (Aa Q (w.1.size+1) Xo):=Aa.A (v:=Ze) x r;have z3:=r.size;have V:Hid (Zz w Q):=t.ah (r.aj t.size)
    have zR:=Af.own D;clear z B r s x t D;go_wp2_with fail;refine(HS Q g E zR).aj ?_;rintro e w4 ⟨o,p,q,m,n,k,l,M,rfl,A,Y,I⟩;have z4:=I.size;have⟨r,F⟩:=D6 w4 #[Zg o.code,Zg o.wd,Zg o.D,Zg o.F,Zg o.C,C1 p o.ks q,C1 m o.ps n,C1 k o.ls l,C4 o.j,Zg o.le,C4 o.a,C4 o.b] 36;have D:=(AE F).1;have yC:=(AE F).2.1
    have zE:Hid (Aa r _ _):=(AE F).2.2;have zC:Hid (Aa r w.1.size [C1 a f c,C1 b i d]):=Aa.A (Aa.A u I) D;have zN:Hid (Aa r (w.1.size+1) Xo):=Aa.A (v:=Ze) (Aa.A (v:=Ze) K I) D;have B:Hid (Zz w r):=(V.ah (I.aj V.size)).ah (D.aj (Zm V.size z4))
    have zK:Hid (Ba r Q.1.size (C1 p o.ks q) (C1 m o.ps n) (C1 k o.ls l) M o.ks o.ps o.ls):=Y.A D;have zG:Hid (Q.1.size<=r.1.size):=by show Q.1.size<=r.1.size;omega
    have HC:Hid (∀X,Zz r X->D8 106 #[.agg #[C1 a f c,C1 b i d]] X λe H=>∃x t y z,e=C5 (.agg #[C7 x f t,C7 y i z])/\H.ownsRow X.1.size 9 1 (C7 x f t) f.length (f.map string)/\H.ownsRow X.1.size 9 1 (C7 y i z) i.length (i.map string)/\x≠y/\Zz X H):=λX C=>NV a b c d f i X (Z X (B.ah (C.aj B.size))).1 (Z X (B.ah (C.aj B.size))).2 ha hb hl zF
    have⟨⟨zZ,_⟩,_⟩:=XG zE;have zB:=Yw (WA (lim:=lim) HG A);have s:=Yw F;clear A Y I D F u K V HA HS Z HG zR;rcases zB.o with⟨F,A⟩|⟨F,A⟩
    case' inr=>
     have zV:(o.code==0)=true:=D2 F
     have zX:(o.code !=0)=false:=D2 F
     have zH:Hid (GC j lim f i 0 (Je j lim f i o)):=A;clear zB A F
     have zM:Hid (∀X,Zz r X->X.rangeAt w.1.size 0 [C1 a f c,C1 b i d]/\X.rangeAt w4.1.size 1 (C8 o.wd o.D o.F o.C p o.ks q m o.ps n k o.ls l)):=λX C=>⟨(Aa.A zC C).range,Aa.gu [Zg o.code] (C8 o.wd o.D o.F o.C p o.ks q m o.ps n k o.ls l) [C4 o.j,Zg o.le,C4 o.a,C4 o.b] (Aa.A zE C)⟩
     go_upto_region 6 with fail;rw[<-s.o];clear s zZ
     go_cut [7] (λu C=>u=Zg 0/\∃x t y z,Hid (Aa C (w.1.size+1) [Zg j,Zg lim,C7 x f t,C7 y i z,Zg o.wd,Zg o.D,Zg o.F,Zg o.C,C1 p o.ks q,C1 m o.ps n,C1 k o.ls l,Ze,Zb,Zb,Ze,Ze,Ze]/\Zz w C/\AM C w.1.size (C7 x f t) (C7 y i z) (C1 p o.ks q) (C1 m o.ps n) (C1 k o.ls l) Zb Zb M (Je j lim f i o)))
     case first=>
      refine wp_region_held_drew (S:=λX=>X.rangeAt w.1.size 0 [C1 a f c,C1 b i d]/\X.rangeAt w4.1.size 1 (C8 o.wd o.D o.F o.C p o.ks q m o.ps n k o.ls l)) Yr (zM _ Ad.drew) (λhS=> ?_);refine BZ 0 (Zg j) ?_;try simp only[Act.put]
      refine BZ 1 (Zg lim) ?_;try simp only[Act.put]
      refine Fl 2 (.agg #[C1 a f c,C1 b i d]) rfl (by exact yieldsIf_load_mid Yp 96 _ rfl (w.1.size) 0 rfl [C1 a f c,C1 b i d] _ (λX h=>h.1) underlying96 rfl Yr) ?_;try simp only[Act.put]
      refine BZ 4 (Yx w4.1.size 1) ?_;try simp only[Act.put]
      refine Fl 5 (.agg (C9 o.wd o.D o.F o.C p o.ks q m o.ps n k o.ls l)) rfl (by exact yieldsIf_load_mid Yp 27 _ rfl (w4.1.size) 1 rfl (C8 o.wd o.D o.F o.C p o.ks q m o.ps n k o.ls l) _ (λX h=>h.2) underlying27 rfl Yr) ?_;try simp only[Act.put]
      refine CL 3 (λK Y=> ?_);go_simp;refine(HC r.drew Ad.drew).aj ?_;rintro e u ⟨x,t,y,z,rfl,zY,zJ,zI,zU⟩;have V:Below r.1.size r u:=(Below.refl r.1.size r).drew.ah zU;try go_simp
      refine Y.out _ _ (zM u V) (λC=> ?_);clear Y K;try simp only[Act.put]
      refine BZ 6 (.agg #[Zg j,Zg lim,C7 x f t,C7 y i z,Zg o.wd,Zg o.D,Zg o.F,Zg o.C,C1 p o.ks q,C1 m o.ps n,C1 k o.ls l,Ze,Zb,Zb,Ze,Ze,Ze]) ?_;try simp only[Act.put]
      refine CL 7 (λK Y=> ?_);have zP:AM u Q.1.size (C7 x f t) (C7 y i z) (C1 p o.ks q) (C1 m o.ps n) (C1 k o.ls l) Zb Zb M (Je j lim f i o):=UX zK V zY zJ zI zG
      have D:(#[Zg j,Zg lim,C7 x f t,C7 y i z,Zg o.wd,Zg o.D,Zg o.F,Zg o.C,C1 p o.ks q,C1 m o.ps n,C1 k o.ls l,Ze,Zb,Zb,Ze,Ze,Ze]:Array Value).all (·.oneCell')=true:=by simp[oneCell']
      have zO:Aa u (w.1.size+1) Xo:=Aa.A (v:=Ze) zN V;have⟨I,C⟩:=Ae (u.setCells (w.1.size+1) 0 [Zg j,Zg lim,C7 x f t,C7 y i z,Zg o.wd,Zg o.D,Zg o.F,Zg o.C,C1 p o.ks q,C1 m o.ps n,C1 k o.ls l,Ze,Zb,Zb,Ze,Ze,Ze])
      have x9:Aa I (w.1.size+1) [Zg j,Zg lim,C7 x f t,C7 y i z,Zg o.wd,Zg o.D,Zg o.F,Zg o.C,C1 p o.ks q,C1 m o.ps n,C1 k o.ls l,Ze,Zb,Zb,Ze,Ze,Ze]:=by rw[C];exact zO.ay _ rfl
      have t9:Tn [w.1.size+1] u I:=by rw[C];exact AV _ _ _ _
      have z5:=V.size;have B9:Below w.1.size w I:=(B.ah (V.aj B.size)).ah (t9.A (Dz B.size) Yu);have zT:AM I w.1.size (C7 x f t) (C7 y i z) (C1 p o.ks q) (C1 m o.ps n) (C1 k o.ls l) Zb Zb M (Je j lim f i o):=(zP.stays t9 (λg hg Z=>by have:=zP.lo g Z;simp at hg;omega)).aj Yv
      have Z:=Yw (Zn x9 (Zn B9 zT))
      have zS:I.rangeAt w.1.size 0 [C1 a f c,C1 b i d]/\I.rangeAt w4.1.size 1 (C8 o.wd o.D o.F o.C p o.ks q m o.ps n k o.ls l):=⟨(Aa.same (Aa.A zC V) (t9.block _ Yv Yu)).range,Aa.gu [Zg o.code] (C8 o.wd o.D o.F o.C p o.ks q m o.ps n k o.ls l) [C4 o.j,Zg o.le,C4 o.a,C4 o.b] (Aa.same (Aa.A zE V) (t9.block _ Yv Yt))⟩
      rw[if_pos Yp];refine wp_store_mid 100 _ _ rfl (w.1.size+1) 0 #[Zg j,Zg lim,C7 x f t,C7 y i z,Zg o.wd,Zg o.D,Zg o.F,Zg o.C,C1 p o.ks q,C1 m o.ps n,C1 k o.ls l,Ze,Zb,Zb,Ze,Ze,Ze] rfl rfl zO.there Yr D ?_;try rw[<-C]
      refine Y.out _ _ zS (λyA=> ?_);clear Y K;try simp only[Act.put]
      refine BZ 8 Ze ?_;try simp only[Act.put]
      refine wpAnyH_done Yr ?_ _;go_wp2_with fail;go_meet;exact⟨rfl,x,t,y,z,Z.1,Z.2⟩
     case rest=>
      obtain⟨rfl,x,t,y,z,K⟩:=hcut;have x9:=K.1;go_wp2;refine bodyPost_ret (Nv results85 _ _ (w.1.size+1) [Zg j,Zg lim,C7 x f t,C7 y i z,Zg o.wd,Zg o.D,Zg o.F,Zg o.C,C1 p o.ks q,C1 m o.ps n,C1 k o.ls l,Ze,Zb,Zb,Ze,Ze,Ze] _ rfl rfl x9.range underlying100 rfl Yr) rfl ?_
      exact⟨0,Je j lim f i o,_,_,_,_,_,_,_,M,zH,rfl,K.2.2,K.2.1⟩
    case' inl=>
     have zV:(o.code==0)=false:=D2 F
     have zX:(o.code !=0)=true:=D2 F
     have zA:Hid (GC j lim f i 2 v0):=A;clear zB A F HC zK zC;go_upto_region 4 with fail;rw[<-s.o];clear s;have U:Hid (Aa _ _ _):=zN.o;have R:Hid (Below _ _ _):=B.o;obtain⟨X,rfl⟩:=Ae r
 all_goals
  have D:(Xp:Array Value).all (·.oneCell')=true:=by simp[oneCell']
  have F:X.there (w.1.size+1) 0 17:=(U.o).there;have A:=Yw (Zn D F);have⟨I,C⟩:=Ae (X.setCells (w.1.size+1) 0 Xo);have x9:Aa I (w.1.size+1) Xo:=by rw[C];exact(U.o).ay _ rfl
  have Y:Below w.1.size w I:=(R.o).ah (by rw[C];exact(AV _ _ _ _).A (R.o).size Yu);have s:=Yw C;clear D F C;go_wp2_with (refine wpList_store_mid rfl 100 _ _ rfl (w.1.size+1) 0 Xp rfl rfl A.2 Yr A.1 ?_);rw[<-s.o];refine bodyPost_ret (Nv results85 _ _ (w.1.size+1) Xo _ rfl rfl x9.range underlying100 rfl Yr) rfl ?_
  exact⟨_,v0,_,_,_,_,_,_,_,[],zA,rfl,AM.nil _ _,Y⟩
def RB(b:Nat)(ads:List (Zk))(zs:List (Kd×Value))(g:Nat):Prop:=
 g=b\/(∃p,some p∈ads/\p.block=g)\/∃z∈zs,z.1.B≠[]/\∃ad rc,z.2=.slice (some ad) z.1.B.length rc/\ad.block=g
structure RR (w:Zh) (V:List Nat) (a:Va) (b:Nat) (zs:List (Kd×Value)) (v:Vd):Prop where
 W:a.W=some ⟨b,0,none⟩
 zk:zs.map (·.1)=v.ks
 z:Bm w b 0 zs
 s:Af w w.1.size a.i v.ss
 p:AU w w.1.size a.N v.ps
 l:AS w w.1.size a.L v.ls
 q:Af w w.1.size a.qa v.H
 m:Af w w.1.size a.y v.ms
 cs:a.i=none->v.ss.length=0/\a.sc=0
 cp:a.N=none->a.Q=0
 cl:a.L=none->a.P=0
 cq:FH a.qa v.H.length a.qc
 cm:FH a.y v.ms.length a.mc
 lt:∀g,RB b [a.i,a.N,a.L,a.qa,a.y] zs g->g<w.1.size
 ap:∀g,RB b [a.i,a.N,a.L,a.qa,a.y] zs g->g∉V
theorem WB{c:List (Kd×Value)}(h:Bm w b 0 c)(d:z∈c):∃a e,z.2=C3 (some a) z.1.B.length e/\Af w w.1.size (some a) z.1.B:=by have⟨i,a⟩:=A5 d;exact(h i z a).2
theorem RR.K{m:Zh}{U:List Nat}{a:Va}{j:List (Kd×Value)}(h:RR w V a b j v)(d:Tn U w m)(o:∀g∈U,g∈V\/w.1.size<=g):RR m V a b j v:=by
 have c:∀g,RB b [a.i,a.N,a.L,a.qa,a.y] j g->g∉U:=λg i k=>by
  rcases o g k with f|f
  .exact h.ap g i f
  .have:=h.lt g i;omega
 refine⟨h.W,h.zk,KV h.z (d.block b (h.lt b (.inl rfl)) (c b (.inl rfl))) (λz k=> ?_),h.s.K d (λp e _=>c _ (.inr (.inl ⟨p,by simp[e],rfl⟩))),h.p.K d (λp e _=>c _ (.inr (.inl ⟨p,by simp[e],rfl⟩))),h.l.K d (λp e _=>c _ (.inr (.inl ⟨p,by simp[e],rfl⟩))),h.q.K d (λp e _=>c _ (.inr (.inl ⟨p,by simp[e],rfl⟩))),h.m.K d (λp e _=>c _ (.inr (.inl ⟨p,by simp[e],rfl⟩))),h.cs,h.cp,h.cl,h.cq,h.cm,λg i=>Zr (h.lt g i) d.size,h.ap⟩
 have⟨i,l,f,n⟩:=WB h.z k;refine⟨i,l,f,?_⟩;by_cases hr:z.1.B=[]
 .exact .inl hr
 .exact n.K d (λp e _=>by cases e;exact c _ (.inr (.inr ⟨z,k,hr,i,l,f,rfl⟩)))
theorem RR.clear{V':List Nat}{a:Va}{e:List (Kd×Value)}(h:RR w V a b e v)(f:∀g∈V',g∈V\/w.1.size<=g):RR w V' a b e v:=
 ⟨h.W,h.zk,h.z,h.s,h.p,h.l,h.q,h.m,h.cs,h.cp,h.cl,h.cq,h.cm,h.lt,λg d i=>by
  rcases f g i with c|c
  .exact h.ap g d c
  .have:=h.lt g d;omega⟩
def UY(a:Va)(b tc:Nat)(qa ma:Zk)(qc mc:Nat):Va:=⟨a.i,a.sc,a.Y,a.Z,some ⟨b,0,none⟩,tc,a.N,a.Q,a.L,a.P,qa,qc,ma,mc⟩
theorem RR.unit{y:Zh}{a:Va}{f:List (Kd×Value)}{u r:UR}(h:RR w V a b f (Bc v u))(Q:∀g∈V,g<w.1.size){e:Ending}{Y U:Zl}{S:Dj}{X:Dy}{T:Dv}{wd J i W K H ro:Int}{G F E N:Nat}{m:List (Kd×Value)}{t s M:Zk}(c:LV w y e wd J k i P L S X T W K H ro Y U b a.qa a.y f r n G m t s M F E N):RR y V (UY a n G t s F E) n m (Bc v (u.and r)):=by
 have j:=h.K (V:=V) (Tn.of (V:=[]) c.low) Yu;have d:∀{x:Zk},Ds b a.qa a.y w.1.size x->∀p,x=some p->RB b [a.i,a.N,a.L,a.qa,a.y] f p.block\/w.1.size<=p.block:=λl p e=>by
  rcases l p e with h|⟨q,h,o⟩|⟨q,h,o⟩|h
  .exact .inl (.inl h)
  .exact .inl (.inr (.inl ⟨q,by simp[h],o.symm⟩))
  .exact .inl (.inr (.inl ⟨q,by simp[h],o.symm⟩))
  .exact .inr h
 have hold:∀g,RB n [a.i,a.N,a.L,t,s] m g->(RB b [a.i,a.N,a.L,a.qa,a.y] f g\/w.1.size<=g)/\g<y.1.size:=λg l=>by
  rcases l with rfl|⟨p,C,rfl⟩|⟨z,R,I,A,Z,O,rfl⟩
  .exact⟨d c.fb ⟨g,0,none⟩ rfl,c.lt⟩
  .simp only[Bv,not_mem_nil,or_false]at C;rcases C with e|e|e|e|e
   .have:RB b [a.i,a.N,a.L,a.qa,a.y] f p.block:=.inr (.inl ⟨p,by simp[<-e],rfl⟩);exact⟨.inl this,j.lt _ this⟩
   .have:RB b [a.i,a.N,a.L,a.qa,a.y] f p.block:=.inr (.inl ⟨p,by simp[<-e],rfl⟩);exact⟨.inl this,j.lt _ this⟩
   .have:RB b [a.i,a.N,a.L,a.qa,a.y] f p.block:=.inr (.inl ⟨p,by simp[<-e],rfl⟩);exact⟨.inl this,j.lt _ this⟩
   .exact⟨d c.fq p e.symm,c.lq p e.symm⟩
   .exact⟨d c.fm p e.symm,c.lm p e.symm⟩
  .have:RB b [a.i,a.N,a.L,a.qa,a.y] f A.block:=.inr (.inr ⟨z,c.sub z R,I,A,Z,O,rfl⟩);exact⟨.inl this,j.lt _ this⟩
 refine⟨rfl,c.zk,c.z,j.s,j.p,j.l,c.q,c.m,h.cs,h.cp,h.cl,c.cq,c.cm,λg l=>(hold g l).2,λg l D=> ?_⟩;rcases(hold g l).1 with B|B
 .exact h.ap g B D
 .have:=Q g D;omega
theorem RR.ko{a:Va}{s:List (Kd×Value)}(h:RR w V a b s v){ta:Zk}{tc:Nat}(d:Ar w r (C3 ta v.E.length tc) v.E)(f:v.ss.length<=1048576)(g:v.E.length<=1048576)(i:v.H.length<=100000000)(j:v.ms.length<=100000000)(l:v.ks.length<=600)(m:v.ps.length<=100)(n:v.ls.length<=200)(o:∀k∈v.ks,k.B.length<=30):Kk w {a with Y:=ta,Z:=tc} v:=by
 have⟨_,_,e,p⟩:=d.row;cases e;have q:AW w w.1.size (some ⟨b,0,none⟩) v.ks:=by have:=h.z.dx (h.lt b (.inl rfl));rw[h.zk]at this;exact this
 refine⟨⟨h.s,p,⟨by rw[h.W];exact q,h.p,h.l⟩,h.q,h.m⟩,h.cs,d.cap.2,h.cq,h.cm,λA e=> ?_,h.cp,h.cl,f,g,i,j,l,m,n,o⟩;have c:a.W=some A:=e;rw[h.W]at c;cases c;rw[<-h.zk];exact Ig.cp h.z.some
theorem Ts(v:Vd):Bc v (EN v)=v:=by cases v;simp[Bc,EN]
theorem RR.start{t:Nat}{S U Q M:D4}{j:Zj}(h:AM w t S U T P L Q M j v)(f:∀u∈S::U::Q::M::T::P::L::j,∃g n c,u=Yz g n c):∃a b d,S=C3 a.i v.ss.length a.sc/\U=C3 a.Y v.E.length a.Z/\T=C3 a.W v.ks.length a.X/\P=C3 a.N v.ps.length a.Q/\L=C3 a.L v.ls.length a.P/\Q=C3 a.qa v.H.length a.qc/\M=C3 a.y v.ms.length a.mc/\RR w (Ap U).toList a b d v:=by
 obtain⟨r,n1,sc,rfl⟩:=f S Yu;obtain⟨R,n2,uc,rfl⟩:=f U Yu;obtain⟨H,n3,qc,rfl⟩:=f Q Yu;obtain⟨F,n4,mc,rfl⟩:=f M Yu;obtain⟨s,n5,O,rfl⟩:=f T Yu;obtain⟨G,n6,N,rfl⟩:=f P Yu;obtain⟨E,n7,K,rfl⟩:=f L Yu;have⟨_,_,q,hs⟩:=h.s.row;have⟨_,_,W,_⟩:=h.u.row;have⟨_,_,X,hq⟩:=h.q.row;have⟨_,_,Y,hm⟩:=h.m.row;have⟨_,_,Z⟩:=Aq h.R.ak;have⟨_,_,e6⟩:=Aq h.R.pins
 have⟨_,_,a⟩:=Aq h.R.au;cases q;cases W;cases X;cases Y;cases Z;cases e6;cases a;have V:(v.ks.zip j).length=v.ks.length:=by rw[length_zip,h.R.len];omega
 have B:=h.R.ak;rw[<-V]at B;have C:∀z∈v.ks.zip j,z.2∈j/\∃g c,z.2=C7 g z.1.B c/\Af w w.1.size (some ⟨g,0,none⟩) z.1.B:=λz o=>by have⟨i,hi⟩:=A5 o;have⟨k,d⟩:=getElem?_zip_eq_some.1 hi;have D:=h.R.B i _ _ k d;obtain⟨g,n,c,l⟩:=f z.2 (by simp[Zs d]);refine⟨Zs d,g,c,?_⟩;rw[l]at D |-;have⟨_,_,e⟩:=Aq D;cases e;exact⟨rfl,Af.own D⟩
 have x:∀g,RB s [some ⟨r,0,none⟩,some ⟨G,0,none⟩,some ⟨E,0,none⟩,some ⟨H,0,none⟩,some ⟨F,0,none⟩] (v.ks.zip j) g->g=r\/g∈BX (C7 s v.ks O) (C7 G v.ps N) (C7 E v.ls K) j\/g=H\/g=F:=λg l=>by
  unfold BX;simp only[A7,A8,mem_filterMap];rcases l with rfl|⟨p,J,rfl⟩|⟨z,o,_,ad,rc,q,rfl⟩
  .exact .inr (.inl (.inl rfl))
  .simp only[Bv,not_mem_nil,or_false,Option.some.injEq]at J;rcases J with rfl|rfl|rfl|rfl|rfl
   .exact .inl rfl
   .exact .inr (.inl (.inr (.inl rfl)))
   .exact .inr (.inl (.inr (.inr (.inl rfl))))
   .exact .inr (.inr (.inl rfl))
   .exact .inr (.inr (.inr rfl))
  .obtain⟨k,g,c,d,_⟩:=C z o;rw[d]at q;cases q;exact .inr (.inl (.inr (.inr (.inr ⟨z.2,k,by rw[d];rfl⟩))))
 have y:=h.dj;have A:=h.nd;unfold DZ at y A
 refine⟨⟨some ⟨r,0,none⟩,sc,some ⟨R,0,none⟩,uc,some ⟨s,0,none⟩,O,some ⟨G,0,none⟩,N,some ⟨E,0,none⟩,K,some ⟨H,0,none⟩,qc,some ⟨F,0,none⟩,mc⟩,s,v.ks.zip j,rfl,rfl,rfl,rfl,rfl,rfl,rfl,⟨rfl,map_fst_zip (by rw[h.R.len];exact Zx),Bm.own B (λz o=> ?_),hs,AU.own h.R.pins,AS.own h.R.au,hq,hm,(λe=>by cases e),(λe=>by cases e),(λe=>by cases e),h.q.cap,h.m.cap,λg l=> ?_,λg l I=> ?_⟩⟩
 .obtain⟨_,g,c,d,m⟩:=C z o;exact⟨_,c,d,m⟩
 .refine y g ?_;simp only[A7,A8];rcases x g l with rfl|k|rfl|rfl
  .exact .inl (.inl rfl)
  .exact .inr (.inl k)
  .exact .inr (.inr (.inl rfl))
  .exact .inr (.inr (.inr rfl))
 .have b:g=R:=by simpa [Ap]using I
  subst b;have⟨k,_,m⟩:=nodup_append.1 A;have I:=(nodup_append.1 k).2.2;simp only[A7,A8]at m I;rcases x g l with e|u|e|e
  .exact I r rfl g rfl e.symm
  .exact m g (.inr rfl) g (.inl u) rfl
  .exact m g (.inr rfl) g (.inr (.inl (by rw[e];rfl))) rfl
  .exact m g (.inr rfl) g (.inr (.inr (by rw[e];rfl))) rfl
theorem XI(X:Zh)(k a j:Nat)(U:D4)(c:Zl)(t:Zi)(h:Ar X k U c)(p:∀g,Ap U=some g->g≠a)(u:a<X.1.size)(x:k<=X.1.size)(w:c.length<=100000000):
 ∃d f Y,(Builtin.append_ #[28,28] 28 #[U,Yz X.1.size 1 1]).run prog (X.alloc (.cells #[C4 t] 9))=.ok (C3 d (c.length+1) f) Y/\Y.1[a]?=X.1[a]? /\Tn (a::(Ap U).toList) X (Y.setCell (Zd a j) (C3 d (c.length+1) f))/\Ar (Y.setCell (Zd a j) (C3 d (c.length+1) f)) k (C3 d (c.length+1) f) (c++[t])/\∀g,Ap (C3 d (c.length+1) f)=some g->Ap U=some g\/X.1.size<=g:=by
 have n:Below X.1.size X (X.alloc (.cells #[C4 t] 9)):=Zy;obtain⟨y,Y,s,o,q,r⟩:=Kz (X.alloc (.cells #[C4 t] 9)) k U c (h.A n) ⟨X.1.size,0,none⟩ 1 t (by simp[go_sem]) w Yt 28;obtain⟨d,f,rfl,_⟩:=o.row;rw[Ak,length_cons,length_nil,A0]at s o r;have m:∀g,Ap (C3 d (c.length+1) f)=some g->Ap U=some g\/X.1.size<=g:=λg e=>by
  rcases r with i|i
  .rw[i]at e;exact .inl e
  .rw[i]at e;have:=A4 e;simp at this;exact .inr Yv
 have v:Y.1[a]?=X.1[a]?:=(q.block a Yt (λe=>p a e.symm rfl)).ah (n.block a u);refine⟨d,f,Y,s,v,((Tn.of (V:=[]) n).aj Yu).ah (((EJ q).aj (by simp;exact λb h=> .inr h)).ah (Tn.set _ _ _ _ Yu)),o.K (AP Y a j _) (λg e l=> ?_),m⟩;simp at l;subst l;rcases m g e with i|i
 .exact p g i rfl
 .omega
def SwP(v:Vd)(units:Int)(w:Zh)(e:Ending)(w':Zh):Prop:=∃o cs,Fi v units o/\e=.returned (.agg cs.toArray)/\SwA v o w.1.size w' cs/\Zz w w'
theorem MG(a:Aa X (w.1.size+1) (z20 0)/\Zz w X):X.there (w.1.size+1) 0 20/\(z20 1).toArray.all (·.oneCell')=true/\Aa (X.setCells (w.1.size+1) 0 (z20 1)) (w.1.size+1) (z20 1)/\Zz w (X.setCells (w.1.size+1) 0 (z20 1)):=
 ⟨a.1.there,by simp[z20,oneCell'],a.1.ay _ rfl,a.2.ah ((AV _ _ _ _).A a.2.size Yu)⟩
section
structure AQ (wd now given births:Int) (ks:List Kd) (ps:List Pd) (ls:List Ld) (kd:Int) (s nm:Zi) (num:Int) (text:Zi) (refs:Zl) (X:Zh) (ch:Zj):Prop where
 ex:∃(c0 wd':Int) (r:Rs) (xa:Zk) (xc:Nat) (pa:Zk) (pc:Nat) (la:Zk) (lc:Nat) (a b:Zi) (base g:Nat) (zs:List (Kd×Value)),ch=[Zg c0,Zg wd',Zg r.D,Zg r.F,Zg r.C,.slice xa r.ks.length xc,.slice pa r.ps.length pc,.slice la r.ls.length lc,.string r.j,Zg r.le,.string a,.string b]/\zs.map (·.1)=r.ks/\CT X base g xa pa la pc lc zs r.ps r.ls/\Kh wd r.ks/\XE wd r/\((c0≠0/\r.j=⟨#[]⟩/\r.le=0/\Ep wd now given births ks ps ls kd s nm num text refs c0 a b)\/(c0=0/\wd'=wd/\a=⟨#[]⟩/\b=⟨#[]⟩/\BP wd now given births ks ps ls kd s nm num text refs r))
theorem AQ.A{c:Int}{o:Dj}{t:Dy}{p:Dv}{n:Int}{q:Zi}{l:Int}{i:Zi}{f:Zl}{m:Zj}(h:AQ u k d c o t p n s q l i f X m)(A:Zz X Y):AQ u k d c o t p n s q l i f Y m:=by have⟨w,v,r,F,G,D,E,B,C,a,b,j,g,H,e,x,y,z⟩:=h.ex;exact⟨w,v,r,F,G,D,E,B,C,a,b,j,g,H,e,x,y.A A,z⟩
theorem AJ.tok{e b a:Int}{c:Dj}{j:Dv}(h:AJ d e b a c l j):Kh d c:=λk g=>by have⟨i,f⟩:=A5 g;exact(h.th i k f).1
theorem Kj.aq{n o:Int}{y:Dj}{C:Dy}{A:Dv}{x:Int}{B:Zi}{j:Zi}{g:Zl}{l:Nat}{D:Zh}{e:Ending}(u:AJ n o f d y C A)(E:Bp x s B p j g n=true)(J:0<D.1.size)(h:Kj l L n o f d y C A x s B p j g w e D):∃m,e=C5 (.agg m.toArray)/\AQ n o f d y C A x s B p j g D m:=by
 rcases h.2 with⟨c,a,b,t,rfl⟩|⟨r,F,P,Q,R,N,O,K,M,v,rfl,H,G⟩
 .have:=t.code
  exact⟨BE c a b,rfl,c,0,⟨⟨#[]⟩,0,0,0,0,[],[],[]⟩,none,0,none,0,none,0,a,b,0,0,[],rfl,rfl,⟨.inr rfl,λi z m=>by simp at m,J,⟨rfl,.inl ⟨rfl,rfl⟩⟩,⟨rfl,.inl ⟨rfl,rfl⟩⟩,Yv,by simp[ownBlock],λq I=>by simp[ownBlock]at I,λz m=>by simp at m,.inl rfl,λz m=>by simp at m⟩,(λk m=>by cases m),⟨Yu,Yu,Yu,Yu,Yu,Yu⟩,.inl ⟨Yv,rfl,rfl,t⟩⟩
 .exact⟨[_,_,_,_,_,_,_,_,_,_,_,_],rfl,0,n,r,P,Q,N,O,K,M,⟨#[]⟩,⟨#[]⟩,l,F,R,rfl,H,G,u.tok.step E v,BP.fits u E v,.inr ⟨rfl,rfl,rfl,rfl,v⟩⟩
def AqC(B:Nat)(E:Value)(wd now given births:Int)(ks:List Kd)(ps:List Pd)(ls:List Ld)(kd:Int)(s nm:Zi)(num:Int)(text:Zi)(refs:Zl)(X:Zh)(cs:Zj):Prop:=
 ∀Y,Zz X Y->Calls prog 30 #[.agg cs.toArray,E] Y fun e Y'=>(∃g cur,Tn [g] Y Y'/\B<=g/\Y.1[g]?=some (.cells cur 73))/\∃ch,e=.returned (.agg ch.toArray)/\AQ wd now given births ks ps ls kd s nm num text refs Y' ch
def Qo(B:Nat)(p:Prop)(X Y:Zh):Prop:=Below B X Y/\(p->Zz X Y)/\∀(o:Nat) c,X.1[o]?=some (.cells c 36)->Y.1[o]?=some (.cells c 36)
theorem Qo.of{B:Nat}{p:Prop}(a:Zz X Y)(b:B<=X.1.size):Qo B p X Y:=⟨a.aj b,λ_=>a,λo _ h=>(a.block o (A2.1 h).1).ah h⟩
def AqF(o:Nat)(c0:Int)(a b:Zi)(Q:Ending->Zh->Prop)(B:Nat)(wx:Zh):Prop:=
 ∃(i1 i2 i3 i4:Int) (a5:Zk) (n5 k5:Nat) (a6:Zk) (n6 k6:Nat) (a7:Zk) (n7 k7:Nat) (sm:Zi) (le:Int),Aa wx o [Zg c0,Zg i1,Zg i2,Zg i3,Zg i4,.slice a5 n5 k5,.slice a6 n6 k6,.slice a7 n7 k7,.string sm,Zg le,.string a,.string b]/\∀X,Tn [B] wx X->Q (.returned (.agg #[Zg c0,Zg i1,Zg i2,Zg i3,Zg i4,.slice a5 n5 k5,.slice a6 n6 k6,.slice a7 n7 k7,.string sm,Zg le,.string a,.string b])) X
theorem Acd(h:Aa w b z12)(d e f g i j k l m n a c:D4):∃Y,Y=((((((((((((w.setCell (Zd b 0) d).setCell (Zd b 1) e).setCell (Zd b 2) f).setCell (Zd b 3) g).setCell (Zd b 4) i).setCell (Zd b 5) j).setCell (Zd b 6) k).setCell (Zd b 7) l).setCell (Zd b 8) m).setCell (Zd b 9) n).setCell (Zd b 10) a).setCell (Zd b 11) c)/\Aa Y b [d,e,f,g,i,j,k,l,m,n,a,c]/\Tn [b] w Y:=⟨_,rfl,SC h d e f g i j k l m n a c,Bs w b d e f g i j k l m n a c⟩
theorem Abg{l o p q r s t z7 m n a c:D4}(h:Aa w b [l,o,p,q,r,s,t,z7,m,n,a,c])(d e f g i j k:D4):∃Y,Y=(((((((w.setCell (Zd b 1) d).setCell (Zd b 2) e).setCell (Zd b 3) f).setCell (Zd b 4) g).setCell (Zd b 5) i).setCell (Zd b 6) j).setCell (Zd b 7) k)/\Aa Y b [l,d,e,f,g,i,j,k,m,n,a,c]/\Tn [b] w Y:=
 ⟨_,rfl,((((((h.set 1 d).set 2 e).set 3 f).set 4 g).set 5 i).set 6 j).set 7 k,((((((AP _ _ _ _).ah (AP _ _ _ _)).ah (AP _ _ _ _)).ah (AP _ _ _ _)).ah (AP _ _ _ _)).ah (AP _ _ _ _)).ah (AP _ _ _ _)⟩
theorem WC(E y n f:Int)(S pa la:Zk)(kc pc lc:Nat)(D:Dj)(F:Dy)(G:Dv)(I:Int)(s H:Zi)(u:Int)(t:Zi)(q:Zl)(U:Zk)(rc:Nat)(w:Zh)(J:Bx w w.1.size S pa la D F G)(N:∀A,S=some A->IF w A D)(yN:pa=none->pc=0)(yI:la=none->lc=0)(hk:Iq D)(a:IP F)(hf:JA D F G)(hr:Af w w.1.size U q)(yQ:U=none->q.length=0/\rc=0)(yP:q.length<=1048576)(zY:t.size<=maxLen)(yL:H.size<=maxLen):
 D8 6 #[.agg (Yg E y n f S D.length kc pa F.length pc la G.length lc),.agg (Yd I s H u t U q.length rc)] w (Ke E y n f D F G I s H u t q w):=by
 have⟨W,O⟩:=Ae (((w.alloc (.cells (C9 E y n f S D kc pa F pc la G lc) 27)).alloc (.cells (Yd I s H u t U q.length rc) 32)).alloc (.cells Xz 36));obtain⟨M,zW,x0,xe,x1⟩:=BI (l:=(C8 E y n f S D kc pa F pc la G lc)) (k:=(Yc I s H u t U q.length rc)) (m:=z12) O
 have HX:Hid (∀X,Zz W X->(Aa X w.1.size (C8 E y n f S D kc pa F pc la G lc)/\Aa X (w.1.size+1) (Yc I s H u t U q.length rc)/\Aa X (w.1.size+2) z12)/\Zz w X/\Bx X X.1.size S pa la D F G/\Af X X.1.size U q/\∀A,S=some A->IF X A D):=λX Q=>by have C:Below w.1.size w X:=M.ah (Q.aj M.size);exact⟨⟨Aa.A x0 Q,Aa.A xe Q,Aa.A (v:=Ze) x1 Q⟩,C,J.T C,Af.aj (Af.A hr C) C.size,λA hA=>(N A hA).ag (hA▸J.k) C⟩
 have R:=Yw (Mh E y n f S pa la kc pc lc D F G W (J.T M) hk a hf);have V:=Yw O;obtain⟨v0,v1,v2,v3,v4,v5,v6⟩:=Aa.c7 x0 0 1 2 3 4 5 6;clear O J hk a hf hr N M x0 xe x1;go_enter func6,ntmps6;go_upto_region 1 with fail;rw[<-V.o];clear V;go_wp2_with fail;refine R.Ai ?_;rintro e w1 ⟨N,rfl,M,J⟩;have⟨⟨x0,xe,x1⟩,zA,_,zI,_⟩:=HX w1 J;have zH:=Yw M;have zF:Hid (Zz W w1):=J
 clear R v0 v1 v2 v3 v4 v5 v6 M J;cases N
 case' true=>
  have O:Hid (AJ E y n f D F G):=zH.1 rfl;have HE:=Yw (Sf I s H u t U rc q E w1 zI yP zY yL);obtain⟨e0,e1,e2,e3,e4,e5⟩:=Aa.c6 xe 0 1 2 3 4 5;obtain⟨v0,_⟩:=x0 0 _ rfl;clear x0 xe x1 zA zI;go_wp2_with fail;refine HE.Ai ?_;rintro e w2 ⟨rfl,J⟩;have zG:Hid (Zz W w2):=zF.ah (J.aj zF.size);clear e0 e1 e2 e3 e4 e5 v0 HE J zH zF;cases hoe:Bp I s H u t q E
  case' true=>
   have M:∀k∈D,k.B.length<=30:=λk hk=>(O.ak k hk).B;have J:=GB.of O hoe zY;have zR:Hid (∀X,Zz W X->D8 31 #[.agg (C9 E y n f S D kc pa F pc la G lc)] X λe X'=>Zz X X'/\∃cs,e=C5 (.agg cs.toArray)/\AqC W.1.size (.agg (Yd I s H u t U q.length rc)) E y n f D F G I s H u t q X' cs):=λX Q=>by
    have⟨_,yX,yE,yO,yD⟩:=HX X Q;refine(Ft E y n f S pa la kc pc lc D F G X yE yD yN yI O.nth O.np O.nl M).aj ?_;rintro e X' ⟨T,P,L,rs,rfl,hS,hv,C⟩;obtain⟨b,p,l,tc,qc,mc,zs,rfl,rfl,rfl,hm,hC,yZ,xA⟩:=CT.of hS hv C.size;refine⟨C,[_,_,_,_,_,_,_],rfl,λY hY=> ?_⟩
    have N:=Iz X.1.size E y n f b _ _ _ tc qc mc zs F G s H t u q U rc Y I (hC.A hY) (by rw[hm];exact J) (by rw[hm];exact M) (Af.aj (Af.A yO (C.ah (hY.aj C.size))) (Zm C.size hY.size)) yQ;rw[hm]at N;refine N.aj λe R R=>⟨?_,Kj.aq O hoe (by have:=Q.size;have:=R.1.size;have:=hY.size;omega) R⟩;obtain⟨zT,hc⟩:=Cz (hC.A hY).lo (g:=l) rfl;exact⟨l,zT,R.1,Dz Q.size,hc⟩
   have zS:Hid (Bp I s H u t q E=true):=hoe;clear hoe M J;go_upto_region 3 with fail;refine Co [17,18,19,20,5] 5 rfl _ rfl Yr Yr Yr Yr Yr Yq Yr [(3,1)] Yr (λ_ X=>Zz W X) (λi X v=>match i with
    |0=>v=.agg (C9 E y n f S D kc pa F pc la G lc)
    |1=>∃cs:Zj,v=.agg cs.toArray/\AqC W.1.size (.agg (Yd I s H u t U q.length rc)) E y n f D F G I s H u t q X cs
    |2=>v=.agg (Yd I s H u t U q.length rc)
    |3=>∃ch:Zj,v=.agg ch.toArray/\AQ E y n f D F G I s H u t q X ch
    |4=>∃o,v=Yy o/\W.1.size<=o/\X.1[o]?=some (.cells z12.toArray 36)
    |_=>True) (λj=>Qo W.1.size (j≠3)) ?_ zG.drew ?_ ?_
   .intro j i X Y v yH yK yY hE hT;rcases i with _|_|_|_|_|_<;>first|exact hT|exact trivial|skip
    .obtain⟨cs,e,h⟩:=hT;have V:=hE.2.1 (λe=>yK (by rw[e];simp));exact⟨cs,e,λZ R=>h Z (V.ah (R.aj V.size))⟩
    .obtain⟨ch,e,h⟩:=hT;exact⟨ch,e,h.A (hE.2.1 (λe=>yH e))⟩
    .obtain⟨o,e,N,V⟩:=hT;exact⟨o,e,N,hE.2.2 o _ V⟩
   .intro i o' L x X hi ho hL hD M hd K J;have⟨⟨y0,a,_⟩,_⟩:=HX X M;obtain⟨v0,v1,v2,v3,v4,v5,v6⟩:=Aa.c7 y0 0 1 2 3 4 5 6;obtain⟨e0,e1,e2,e3,e4,e5⟩:=Aa.c6 a 0 1 2 3 4 5;have hr:∀p,Qo W.1.size p X X:=λp=>Qo.of Ad M.size;clear y0 a;rcases(show i=0\/i=1\/i=2\/i=3\/i=4 by omega)with rfl|rfl|rfl|rfl|rfl<;>cases ho<;>simp only[Bk,Act.put,Zq,Zp,Zo]at J |-
    all_goals try (go_simp;exact J.out _ X rfl (hr _) M)
    .have d:=hd ⟨0,.data⟩ Yu Yp;rw[show x 0=.agg (C9 E y n f S D kc pa F pc la G lc) from d]at J |-;go_simp;refine(zR X M).aj ?_;rintro e X' ⟨C,cs,rfl,h⟩;exact J.out _ X' ⟨cs,rfl,h⟩ (Qo.of C M.size) (M.ah (C.aj M.size))
    .obtain⟨cs,e1,N⟩:=hd ⟨1,.data⟩ Yu Yp;have d:=hd ⟨2,.data⟩ Yu Yp;rw[e1,show x 2=.agg (Yd I s H u t U q.length rc) from d]at J |-;go_simp;refine(N X Ad).aj ?_;rintro e X' ⟨⟨g,zT,ht,hg,hc⟩,ch,rfl,hq⟩;have C:=ht.A (B:=W.1.size) M.size (D2 hg)
     exact J.out _ X' ⟨ch,rfl,hq⟩ ⟨C,λh=>absurd rfl h,λo c h=>(ht.block o (A2.1 h).1 (by simp only[mem_singleton];rintro rfl;rw[hc]at h;cases h)).ah h⟩ (M.ah C)
    .have hA:Below X.1.size X (X.alloc (.cells z12.toArray 36)):=Zy;go_simp;exact J.out _ _ ⟨X.1.size,rfl,M.size,heap_alloc_new X _⟩ (Qo.of hA M.size) (M.ah (hA.aj M.size))
   .intro L x X hL M hT K J;simp only[Bk,Act.put,Zq,Zp,Zo];have⟨ch,e1,hq⟩:=hT 3 Yq (λj=>Yu);have⟨o,e2,ho,hB⟩:=hT 4 Yq (λj=>Yu);obtain⟨c,zJ,r,xa,xc,qa,qc,ma,mc,a,b,yR,g,zs,rfl,hm,hC,zX,hf,zV⟩:=hq.ex;have cA:Aa X o z12:=λj v hv=>⟨(LB hB j).ah hv,by simp[frozen?,hB]⟩
    have⟨⟨y0,q0⟩,⟨y1,q1⟩,⟨y2,q2⟩,⟨y3,q3⟩,⟨y4,q4⟩,⟨y5,q5⟩,⟨y6,q6⟩,⟨y7,q7⟩,⟨y8,q8⟩,⟨y9,q9⟩,⟨zC,zN⟩,zE,zO⟩:=Bf cA;have⟨Y,hY,hN,tY⟩:=Acd cA (Zg c) (Zg zJ) (Zg r.D) (Zg r.F) (Zg r.C) (C1 xa r.ks xc) (C1 qa r.ps qc) (C1 ma r.ls mc) (C4 r.j) (Zg r.le) (C4 a) (C4 b)
    have zB:=hC.ij hB (λz hz=>UU zX z.1 (by rw[<-hm];exact mem_map.2 ⟨z,hz,rfl⟩)) tY;have zM:=zB.ik;rw[hm]at zM;have zP:Hid _:=Ft zJ r.D r.F r.C xa qa ma xc qc mc r.ks r.ps r.ls Y zM (λA hA=>by
     rcases zB.tb with h|h
     .rw[h]at hA;cases hA;rw[<-hm];exact zB.z.some.cp
     .rw[<-hm,h];intro i k hi;simp at hi) (CF zB.po) (CF zB.lo) hf.nk hf.np hf.nl hf.B
    have z:Hid (Zz W Y):=M.ah (tY.A M.size (D2 ho));have HN:=Yw hN;have xC:o<X.1.size:=Aa.lt (v:=Ze) cA;have A:=Yw zV;rw[e1,e2];clear hT hq hC zB zM zX hf hB cA tY e1 e2 zV hm hN zR zG;go_simp;refine J.out _ _ ?_;clear J K;rw[<-hY];clear hY y0 y1 y2 y3 y4 y5 y6 y7 y8 y9 zC zE q0 q1 q2 q3 q4 q5 q6 q7 q8 q9 zN zO;obtain⟨d1,d2,d3,d4,d5,d6,d7⟩:=Aa.c7 HN 1 2 3 4 5 6 7
    go_wp2_with fail;refine zP.Ai ?_;rintro e Z ⟨T,P,L,rs,rfl,hS,_,C⟩;obtain⟨ta,tc,rfl⟩:=Aq hS.ak;obtain⟨yB,yC,rfl⟩:=Aq hS.pins;obtain⟨zZ,yA,rfl⟩:=Aq hS.au;have R:=Aa.A HN C;have xD:=R.lt;have yW:=HN.lt;have⟨Z1,zU,N,t1⟩:=Abg R (Zg zJ) (Zg r.D) (Zg r.F) (Zg r.C) (C1 ta r.ks tc) (C1 yB r.ps yC) (C1 zZ r.ls yA);obtain⟨u0,g0⟩:=R 0 _ rfl
    obtain⟨u1,g1⟩:=R 1 _ rfl;obtain⟨u2,g2⟩:=R 2 _ rfl;obtain⟨u3,g3⟩:=R 3 _ rfl;obtain⟨u4,g4⟩:=R 4 _ rfl;obtain⟨u5,g5⟩:=R 5 _ rfl;obtain⟨u6,g6⟩:=R 6 _ rfl;obtain⟨u7,g7⟩:=R 7 _ rfl;have yV:=C.size;have yF:=z.size;have zK:=z.ah (C.aj yF);have J:Hid (Aa Z1 o _/\Tn [o] Z Z1/\Zz W Z1):=⟨N,t1,zK.ah (t1.A zK.size (D2 ho))⟩
    have K:Hid (∀X,Tn [o,w.1.size+2] Z X->Ba X w.1.size (C1 ta r.ks tc) (C1 yB r.ps yC) (C1 zZ r.ls yA) rs r.ks r.ps r.ls):=λX hT=>(hS.K hT (by intro v hv;simp at hv;omega)).aj Yv;clear hS R HN zP d1 d2 d3 d4 d5 d6 d7 C N t1 zK
    go_upto_if 27 with fail
    rw[<-zU];clear zU u0 u1 u2 u3 u4 u5 u6 u7 g0 g1 g2 g3 g4 g5 g6 g7;go_cut [27] (λ_ R=>Hid (AqF o c a b (Ke E y n f D F G I s H u t q w) (w.1.size+2) R/\Zz W R))
    case first=>
     have HB:Hid (∀R X,Zz W R->Tn [w.1.size+2] R X->Zz w X):=λR X N V=>by have h3:=(HX R N).2.1;exact h3.ah (V.A h3.size Yu)
     obtain⟨d0,_⟩:=J.1 0 _ rfl;by_cases hc0:c=0
     .have yJ:(c !=0)=false:=D2 hc0
      have HE:Hid (AqF o c a b (Ke E y n f D F G I s H u t q w) (w.1.size+2) Z1/\Zz W Z1):=by
       rcases A.o with⟨h,_⟩|⟨e1,e2,e3,e4,hy⟩
       .exact absurd hc0 h
       .exact⟨⟨_,_,_,_,_,_,_,_,_,_,_,_,_,_,_,J.1,λX Q=>⟨HB _ X J.2.2 Q,.inr ⟨⟨O,zS⟩,.inr ⟨r,_,_,_,rs,hy,by rw[e1,e2,e3,e4],K.o X ((J.2.1.aj Yu).ah (Q.aj Yu))⟩⟩⟩⟩,J.2.2⟩
      clear J K A z HB HX hc0;go_wp2;go_meet;exact HE
     .have yJ:(c !=0)=true:=D2 hc0
      obtain⟨Z2,yG,V,R⟩:=Abg J.1 Ze Ze Ze Ze Zb Zb Zb;have HE:Hid (AqF o c a b (Ke E y n f D F G I s H u t q w) (w.1.size+2) Z2/\Zz W Z2):=by
       have C:=J.2.2.ah (R.A J.2.2.size (D2 ho));rcases A.o with⟨_,e2,e3,yM⟩|⟨h,_⟩
       .exact⟨⟨_,_,_,_,_,_,_,_,_,_,_,_,_,_,_,V,λX Q=>⟨HB _ X C Q,.inr ⟨⟨O,zS⟩,.inl ⟨c,a,b,yM,by rw[e2,e3];rfl⟩⟩⟩⟩,C⟩
       .exact absurd h hc0
      have yS:=J.1.lt;obtain⟨u1,g1⟩:=J.1 1 _ rfl;obtain⟨u2,g2⟩:=J.1 2 _ rfl;obtain⟨u3,g3⟩:=J.1 3 _ rfl;obtain⟨u4,g4⟩:=J.1 4 _ rfl;obtain⟨u5,g5⟩:=J.1 5 _ rfl;obtain⟨u6,g6⟩:=J.1 6 _ rfl;obtain⟨u7,g7⟩:=J.1 7 _ rfl;subst yG;clear J K A z HB HX V R hc0;go_wp2;go_meet;exact HE
    case rest=>
     revert wc;intro R hcut;obtain⟨⟨i1,i2,i3,i4,a5,n5,k5,a6,n6,k6,a7,n7,k7,sm,le,N,V⟩,C⟩:=hcut;have Q:Hid (Aa R o _/\Zz W R/\∀X,_->_):=⟨N,C,V⟩;clear N V C;have⟨⟨y0,q0⟩,⟨y1,q1⟩,⟨y2,q2⟩,⟨y3,q3⟩,⟨y4,q4⟩,⟨y5,q5⟩,⟨y6,q6⟩,⟨y7,q7⟩,⟨y8,q8⟩,⟨y9,q9⟩,⟨zC,zN⟩,zE,zO⟩:=Bf (HX R Q.2.1).1.2.2;have yU:=Q.2.1.size;have N:=Yw Q.2.2;obtain⟨d0,_⟩:=Q.1 0 _ rfl;obtain⟨d1,_⟩:=Q.1 1 _ rfl
     obtain⟨d2,_⟩:=Q.1 2 _ rfl;obtain⟨d3,_⟩:=Q.1 3 _ rfl;obtain⟨d4,d5,d6,d7,d8,d9,V⟩:=Aa.c7 Q.1 4 5 6 7 8 9 10;obtain⟨yT,_⟩:=Q.1 11 _ rfl;have xB:=Q.1.lt;clear Q J K HX A z;go_wp2
     refine C0 (.agg #[Zg c,Zg i1,Zg i2,Zg i3,Zg i4,C3 a5 n5 k5,C3 a6 n6 k6,C3 a7 n7 k7,C4 sm,Zg le,C4 a,C4 b]) (by simp[results,results6,go_sem,y0,y1,y2,y3,y4,y5,y6,y7,y8,y9,zC,zE]) (N _ ?_)
     repeat refine Tn.ah ?_ (Tn.set _ _ _ _ Yu)
     exact Tn.of Ad
  have⟨⟨x0,xe,x1⟩,zA,_,zI,_⟩:=HX w2 zG;have J:Hid (¬(AJ E y n f D F G/\Bp I s H u t q E=true)):=λh=>by rw[hoe]at h;cases h.2
  clear hoe O zG
 case' false=>
  have J:Hid (¬(AJ E y n f D F G/\Bp I s H u t q E=true)):=λh=>by have:=zH.2 h.1;cases this
  clear zH zF
 all_goals
  have C:=Yw zA;have⟨⟨y0,q0⟩,⟨y1,q1⟩,⟨y2,q2⟩,⟨y3,q3⟩,⟨y4,q4⟩,⟨y5,q5⟩,⟨y6,q6⟩,⟨y7,q7⟩,⟨y8,q8⟩,⟨y9,q9⟩,⟨zC,zN⟩,zE,zO⟩:=Bf x1;clear x0 xe x1 zA zI HX;go_wp2;refine C0 (.agg (BE 1 ⟨#[]⟩ ⟨#[]⟩).toArray) (by simp[results,results6,go_sem,y0,y1,y2,y3,y4,y5,y6,y7,y8,y9,zC,zE,BE]) ?_;exact⟨C.ah (Tn.A (Bs _ (w.1.size+2) _ _ _ _ _ _ _ _ _ _ _ _) C.size Yu),.inl ⟨J,rfl⟩⟩
end
structure SX (wd now:Int) (ks:List Kd) (ps:List Pd) (ls:List Ld):Prop where
 j:∀k∈ks,k.sum=Gc k wd
 rf:∀k∈ks,Hu ks k
 pn:∀p∈ps,Ck p.name=true/\Am ks p.sum
 ln:∀l∈ls,1<=l.G/\Am ks l.sum/\now<l.S/\l.S<=now+100000
theorem WD{g:Int}{e:Int}{f:Zi}{c:Zi}{b:Zl}(h:Bp e s f d c b g=true):Gv (Db e.toNat) f=true/\Dc (Cr e.toNat) d=true:=by unfold Bp at h;simp only[Bool.and_eq_true,decide_eq_true_eq]at h;have a:=h.2;unfold CI at a;simp only[Bool.and_eq_true,decide_eq_true_eq]at a;exact⟨a.2.2.1,a.2.2.2.1⟩
theorem SX.step{v b a:Int}{i:Dj}{B:Dy}{A:Dv}{N:Int}{D:Zi}{c:Int}{g:Zi}{f:Zl}(h:SX v b i B A)(U:RX v a i B A)(T:FN v b m a i B A)(R:Bp N s D c g f v=true){r:Rs}(K:BP v b m a i B A N s D c g f r):SX v r.D r.ks r.ps r.ls:=by
 obtain⟨S,J⟩:=WD R;have Z:=T.br;have G:∀(x:Ld),x.G=m+1->Am i x.sum->b<x.S/\x.S<=b+100000->∀l∈A++[x],1<=l.G/\Am i l.sum/\b<l.S/\l.S<=b+100000:=λx H L j l d=>by
  rcases A7.1 d with d|d
  .exact h.ln l d
  .rw[mem_singleton.1 d];exact⟨Yv,L,j⟩
 rcases K with⟨rfl,w,d,V,X,Y,K,rfl⟩|⟨rfl,w,_,rfl⟩|⟨_,_,rfl⟩|⟨rfl,w,_,_,rfl⟩|⟨_,_,rfl⟩|⟨rfl,_,rfl⟩|⟨_,_,o,rfl⟩
 .have y:1<=c/\c<=100000:=by simpa [Cr,Dc]using J
  rcases K with⟨k,j,O,_,rfl,rfl⟩|⟨W,_,_,rfl,rfl⟩
  .exact⟨h.j,h.rf,h.pn,G _ rfl ⟨k,j,O⟩ ⟨by show b<b+c;omega,by show b+c<=_;omega⟩⟩
  .have M:∀k,k∈De i ⟨AX g f v,a+1,g,f⟩->k=⟨AX g f v,a+1,g,f⟩\/k∈i:=λk j=>Bv.1 ((Ef i _).mem_iff.1 j);have E:∀{t},Am i t->Am (De i ⟨AX g f v,a+1,g,f⟩) t:=λ⟨u,o,e⟩=>⟨u,(Ef i _).mem_iff.2 (mem_cons_of_mem _ o),e⟩;refine⟨λk j=> ?_,λk j r z=> ?_,λp q=>⟨(h.pn p q).1,E (h.pn p q).2⟩,λl d=> ?_⟩
   .rcases M k j with rfl|j
    .rfl
    .exact h.j k j
   .rcases M k j with rfl|j
    .obtain⟨u,o,e⟩:=w r z;exact⟨u,(Ef i _).mem_iff.2 (mem_cons_of_mem _ o),e,by have:=(U.b1 u o).2;show u.born<a+1;omega⟩
    .obtain⟨u,o,e,C⟩:=h.rf k j r z;exact⟨u,(Ef i _).mem_iff.2 (mem_cons_of_mem _ o),e,C⟩
   .rcases A7.1 d with d|d
    .exact⟨(h.ln l d).1,E (h.ln l d).2.1,(h.ln l d).2.2⟩
    .rw[mem_singleton.1 d];exact⟨by show 1<=m+1;omega,⟨_,(Ef i _).mem_iff.2 (Bv.2 (.inl rfl)),rfl⟩,by show b<b+c;omega,by show b+c<=b+100000;omega⟩
 .have P:Ck D=true:=by simpa [Db,Gv]using S
  refine⟨h.j,h.rf,λp q=> ?_,h.ln⟩;have n:p∈Bh B D s:=q;unfold Bh at n;rcases A7.1 n with n|n
  .rcases A7.1 n with n|n
   .exact h.pn p (Bb.1 n).1
   .rw[mem_singleton.1 n];exact⟨P,w⟩
  .exact h.pn p (Bb.1 n).1
 .exact⟨h.j,h.rf,λp q=>h.pn p (Bb.1 q).1,h.ln⟩
 .have y:1<=c/\c<=100000:=by simpa [Cr,Dc]using J
  exact⟨h.j,h.rf,h.pn,G _ rfl w ⟨by show b<b+c;omega,by show b+c<=_;omega⟩⟩
 .exact⟨h.j,h.rf,h.pn,λl d=>h.ln l (Bb.1 d).1⟩
 .have y:1<=c/\c<=100000:=by simpa [Cr,Dc]using J
  refine⟨h.j,h.rf,h.pn,λl d=> ?_⟩;have H:=h.ln l (Bb.1 d).1;have L:¬l.S<=b+c:=D2 (Bb.1 d).2
  exact⟨H.1,H.2.1,by show b+c<l.S;omega,by show l.S<=b+c+_;omega⟩
 .have j:∀{t},Am i t->t≠s->Am (CJ i s) t:=λ⟨u,o,e⟩ hne=>⟨u,Bb.2 ⟨o,by simp;rw[e];exact hne⟩,e⟩;have I:∀k,k∈CJ i s->k∈i:=λk j=>(Bb.1 j).1;refine⟨λk j=>h.j k (I k j),λk F r z=> ?_,λp q=>⟨(h.pn p q).1,j (h.pn p q).2 (λe=>o (.inl (.inl ⟨p,q,e⟩)))⟩,λl d=>⟨(h.ln l d).1,j (h.ln l d).2.1 (λe=>o (.inl (.inr ⟨l,d,e⟩))),(h.ln l d).2.2⟩⟩
  have⟨u,q,e,C⟩:=h.rf k (I k F) r z;exact⟨u,Bb.2 ⟨q,by simp;rw[e];exact λQ=>o (.inr ⟨k,I k F,Q▸z⟩)⟩,e,C⟩
theorem Tt{n g a:Int}{m:Dj}{w:Dy}{v:Dv}(b:FN n u g a m w v)(A:RX n a m w v)(E:Kh n m)(h:SX n u m w v)(C:n<=8):AJ n u g a m w v:=by
 have x:∀(i j:Nat) p k,i<j->m[i]?=some p->m[j]?=some k->less p.sum k.sum=true:=λi j p k y f c=>by have d:=b.bt.dm;rw[pairwise_iff_getElem]at d;have⟨s,o⟩:=Zw f;have⟨t,r⟩:=Zw c;have:=d i j (D2 s) (D2 t) y;simpa [o,r]using this
 refine⟨⟨b.w1,C,b.de,b.ct,b.br,b.bh,b.az,b.ai⟩,b.bt.len,b.np,b.nl,λi k c=>⟨E k (Zs c),h.j k (Zs c),λj p e f=>x j i p k Yv f c⟩,λi k c=>⟨(A.b1 k (Zs c)).1,(A.b1 k (Zs c)).2,λj p D f e=> ?_⟩,λi k c=>h.rf k (Zs c),λi p f=>⟨(h.pn p (Zs f)).1,λj q e z=> ?_,(h.pn p (Zs f)).2⟩,λi l y=> ?_⟩
 .have B:=x j i p k D f c;rw[A.un p (Zs f) k (Zs c) e,By]at B;cases B
 .have d:=b.cg;rw[pairwise_iff_getElem]at d;have⟨s,o⟩:=Zw z;have⟨t,r⟩:=Zw f;have:=d j i s t Yv;rw[o,r]at this;exact this
 .have c:=h.ln l (Zs y);refine⟨c.1,b.gi l (Zs y),λj q e z=> ?_,c.2.1,c.2.2.1,c.2.2.2⟩;have d:=b.di;rw[pairwise_iff_getElem]at d;have⟨s,o⟩:=Zw z;have⟨t,r⟩:=Zw y;have:=d j i s t Yv;rw[o,r]at this;exact this
