import Derived.Test.YtlhhpofjkgmbeaaGreatDoorX20
import Derived.Test.YtlhhpofjkgmbeaaGreatDoorX11
set_option maxRecDepth 100000
set_option maxHeartbeats 16000000
namespace Go.Proofs.YtlhhpofjkgmbeaaGreatDoor
open Go.ChangeShapes Go.WideShapes Go.ChangeAt Go.RowKit _root_.Go.Proofs.Tryz
theorem Ao.set{w:Zh}{base g a n b:Nat}{k:Zl}(h:Ao w base (.slice (some ⟨g,a,none⟩) n b) k){j:Nat}(v:j<k.length)(t:Zi):Ao (w.setCell (Ze g (a+j)) (.string t)) base (.slice (some ⟨g,a,none⟩) n b) (k.set j t):=by
 rcases h with⟨e,_⟩|⟨x,m,l,e,o,p,q,r,c,u⟩
 ·cases e
 ·cases e;refine .inr ⟨g,a,b,by rw[List.length_set],o,by simpa using p,by rw[List.length_set];exact q,r,fun i f=>⟨?_,?_⟩,fun i s d=> ?_⟩
  ·exact(BL.setCell w g (a+j) (.string t) g (a+i) (c i f).1).1
  ·exact(BL.setCell w g (a+j) (.string t) g (a+i) (c i f).1).2 (c i f).2
  ·by_cases hij:i=j
   ·subst hij;rw[List.getElem?_set_self v]at d;cases d;exact World.cell?_setCell_same' _ _ _ (c i (by omega)).1
   ·rw[List.getElem?_set_ne (fun e=>hij e.symm)]at d;exact(World.cell?_setCell_other w _ _ _ (by simp<;>omega)).trans (u i s d)
theorem Rx(k i:Nat)(a:Zl)(h:i<a.length):(marks k i++a.drop i).set i (BO (k+i))=marks k (i+1)++a.drop (i+1):=by have b:=BG k i;rw[List.set_append_right _ _ (by omega),b,Nat.sub_self,List.drop_eq_getElem_cons h,Zp];simp[marks,List.range_succ]
theorem Ht(base k:Nat)(V:Value)(d:Zl)(w:Zh)(h:Ao w base V d)(T:1<=k)(H:k+d.length<=100000000):
 Calls prog 52 #[V,Zg k] w fun e G=>e=.returned (Zg (k+d.length:Nat))/\Ao G base V (marks k d.length)/\w.grownBy G (Ak V):=by
 obtain⟨a,o,rfl,_⟩:=h.row;have D:Hid (Ao w base (.slice a d.length o) d):=h;obtain⟨n,A⟩:∃n,n=d.length:=⟨_,rfl⟩;rw[←A]at D H ⊢;have x:=Yx A;clear h A;go_enter func52,ntmps52;go_wp2
 go_loopw [1,5] (fun v i wr=>∃(j:Nat),j<=n/\i=Zg j/\v=Zg (k+j)/\Hid (Ao wr base (.slice a n o) (marks k j++d.drop j)/\w.grownBy wr (Ak (.slice a n o)))) (fun _ i _=>n -(intOf i).toNat)
 case atStart=>exact⟨0,Nat.zero_le _,rfl,by simp,by simpa [marks]using D.o,DI _ _⟩
 case round=>
  obtain⟨j,S,rfl,rfl,l⟩:=hrel;by_cases hlt:j<n
  ·have q:(marks k j++d.drop j).length=n:=by rw[List.length_append,BG,List.length_drop];have:=x.o;omega
   obtain⟨g,b,rfl,f,s⟩:∃g b,a=some ⟨g,b,none⟩/\(∀X,Zz wr X->(X.cell? (Ze g (b+j))).isSome=true)/\(∀X,Zz wr X->X.frozen? ⟨g,b+j,none⟩=false):=by
    rcases l.o.1 with⟨e,L⟩|⟨g,b,I,e,O,E,P,Q,F,R⟩
    ·rw[L]at q;simp at q;omega
    ·cases e;refine⟨g,b,rfl,fun X z=> ?_,fun X z=> ?_⟩
     ·rw[z.cell (p:=⟨g,b+j,none⟩) E];exact(F j (by omega)).1
     ·rw[z.frozen (p:=⟨g,b+j,none⟩) E];exact(F j (by omega)).2
   have c:=Fl (k+j) wr (by omega) (by omega);rw[show((k+j:Nat):Int)=(k:Int)+j from by omega]at c;have J:(j:Int)<n:=by omega
   have u:=Yx (Zn f s);clear f s;go_wp2_with fail;refine c.mono ?_;rintro e B ⟨rfl,m⟩;obtain⟨v0,M⟩:=Option.isSome_iff_exists.1 (u.o.1 B m);have N:=u.o.2 B m;have r:=(l.o.1.below m).set (j:=j) (by rw[q];exact hlt) (BO (k+j));rw[Rx k j d (by have:=x.o;omega)]at r;have t:=Av l.o.2 (Av (Au _ m) (Je B g (b+j) (.string (BO (k+j)))));have C:=Yx (Zn r t);clear r t l c u;go_wp2
   exact⟨⟨j+1,by omega,by go_num,by go_num,C.o.1,C.o.2⟩,by simp[intOf];omega⟩
  ·obtain rfl:j=n:=by omega
   have y:=l.o.1;rw[List.drop_of_length_le (by have:=x.o;omega),List.append_nil]at y;have K:=Yx y;clear y;go_wp2;go_ret;exact⟨by go_num,K.o,l.o.2⟩
theorem Rz(p ag m q:Int)(base k:Nat)(Q M:Value)(a c:Zl)(w:Zh)(u:Ao w base Q a)(v:Ao w base M c)(z:∀g,Ak Q=some g->Ak M≠some g)(S:1<=k)(V:k+a.length+c.length<=100000000):
 Calls prog 27 #[.agg #[Zg p,Q,M,Zg ag,Zg m,Zg q],Zg k] w fun e F=>e=.returned (Zg (k+a.length+c.length:Nat))/\Ao F base Q (marks k a.length)/\Ao F base M (marks (k+a.length) c.length)/\Tn ((Ak Q).toList++(Ak M).toList) w F:=by
 obtain⟨i,j,rfl,_⟩:=u.row;obtain⟨d,f,rfl,_⟩:=v.row;have s:Below w.heap.size w (w.alloc (.cells (Yk p i a.length j d c.length f ag m q) 41)):=Zy;have E:Aa (w.alloc (.cells (Yk p i a.length j d c.length f ag m q) 41)) w.heap.size (Yg p i a.length j d c.length f ag m q):=Aa.new w _ _;obtain⟨W,x⟩:∃W,W=w.alloc (.cells (Yk p i a.length j d c.length f ag m q) 41):=⟨_,rfl⟩;rw[←x]at s E
 have I:Hid (Aa W _ _):=(AG x).2.2;obtain⟨U,_⟩:=E 1 _ rfl;have D:Hid (Ao W base (.slice i a.length j) a/\Ao W base (.slice d c.length f) c):=⟨u.below s,v.below s⟩;have N:Hid ((∀g,Ak (.slice i a.length j)=some g->g<w.heap.size)/\(∀g,Ak (.slice d c.length f)=some g->g<w.heap.size)):=⟨fun g l=>(u.bj l).2,fun g l=>(v.bj l).2⟩;have HN:=Yx z;have H:=Yx x;have P:Hid (Zz w W):=s;clear u v z x E s
 go_enter func27,ntmps27;go_upto_region 1 with fail;rw[←H.o];clear H;go_wp2_with fail;refine(Ht base k _ a W D.o.1 S (by omega)).mono ?_;rintro e r ⟨rfl,A,n⟩;have O:w.heap.size<W.heap.size:=Aa.lt I.o;have C:Aa r w.heap.size (Yg p i a.length j d c.length f ag m q):=Aa.same I.o (n.block _ O (fun e=>by have:=N.o.1 _ e.symm;omega))
 have y:Ao r base (.slice d c.length f) c:=D.o.2.stays n.size (fun g l=>n.block g (D.o.2.bj l).2 (fun e=>HN.o g e.symm l));obtain⟨T,_⟩:=C 2 _ rfl;have J:Hid (Ao r base (.slice d c.length f) c):=y;have t:=Yx (Zb A n);clear U C y A n;go_wp2_with fail;refine(Ht base (k+a.length) _ c r J.o (by omega) (by omega)).mono ?_;rintro e G ⟨rfl,B,o⟩
 have L:Hid (Ao G base (.slice i a.length j) (marks k a.length)):=t.o.1.stays o.size (fun g l=>o.block g (t.o.1.bj l).2 (fun e=>HN.o g l e.symm));have R:Hid (Tn ((Ak (.slice i a.length j)).toList++(Ak (.slice d c.length f)).toList) w G):=((Tn.of P.o).trans ((Ct t.o.2).mono (by simp;exact fun b h=> .inl h))).trans ((Ct o).mono (by simp;exact fun b h=> .inr h));have K:=Yx B;clear T B o;go_wp2;go_ret
 exact⟨rfl,L.o,K.o,R.o⟩
theorem Pz(a b:Zk)(n m c d k:Nat)(w:Zh)(r:Ad w w.heap.size a (marks k n))(s:Ad w w.heap.size b (marks (k+n) m))(t:1<=k)(v:k+n+m<=100000000):
 Calls prog 56 #[.agg #[.slice a n c,.slice b m d],Zg k] w fun e u=>e=.returned (Zg (k+n+m))/\Zz w u:=by
 have j:Below w.heap.size w (w.alloc (.cells #[.slice a n c,.slice b m d] 35)):=Zy;have x:¬((k:Int)+n<0):=by omega
 have q:¬((k:Int)+n+m<0):=by omega
 go_enter func56,ntmps56;go_wp2_with fail;refine(FZ a n c k w.heap.size _ (r.below j) (by simp) t (by omega)).mono ?_;rintro e l ⟨rfl,h⟩;have g:=j.trans (h.mono (by simp));have i:l.cell? (Ze (w.heap.size) 1)=some (.slice b m d):=by rw[h.cell (p:=⟨w.heap.size,1,none⟩) (by simp)];simp
 have f:=FZ b m d (k+n) w.heap.size l (s.below g) g.size (by omega) (by omega);rw[show((k+n:Nat):Int)=(k:Int)+n from by omega]at f;go_wp2_with fail;refine f.mono ?_;rintro e y ⟨rfl,o⟩;go_wp2;go_ret;exact⟨rfl,g.trans (o.mono g.size)⟩
def Jq(w:Zh)(b:Nat)(u v:Value):Prop:=w.cell? (Ze b 0)=some u/\w.cell? (Ze b 1)=some v/\b<w.heap.size
theorem Jq.new(w:Zh)(u v:Value)(t:TypeId):Jq (w.alloc (.cells #[u,v] t)) w.heap.size u v:=⟨by simp,by simp,by simp⟩
theorem Jq.below{w c:Zh}{b:Nat}{u v:Value}(h:Jq w b u v)(a:Zz w c):Jq c b u v:=
 ⟨(a.cell (p:=⟨b,0,none⟩) h.2.2).trans h.1,(a.cell (p:=⟨b,1,none⟩) h.2.2).trans h.2.1,Zr h.2.2 a.size⟩
theorem Jq.alloc{w:Zh}{b:Nat}{u v:Value}(h:Jq w b u v)(o:Obj):Jq (w.alloc o) b u v:=h.below (Zy)
theorem AO.an{w d:Zh}{base:Nat}{T P L:Value}{o:Zj}{j:List Kd}{m:List Pd}{l:List Ld}(h:AO w base T P L o j m l){V:List Nat}(t:Tn V w d)(p:∀b∈V,b<base):AO d base T P L o j m l:=by have a:∀{e:TypeId} {size:Nat} {v:Value} {n:Nat} {xs:Zj},w.ownsRow base e size v n xs->d.ownsRow base e size v n xs:=fun c=>Ai c (fun g f=>t.block g (Ac c f).2 (fun e=>by have:=p g e;have:=(Ac c f).1;omega));exact⟨h.len,a h.ai,fun i k r q s=>a (h.refs i k r q s),a h.pins,a h.aq,h.nd⟩
theorem AO.mono{w:Zh}{base base':Nat}{T P L:Value}{rs:Zj}{b:List Kd}{d:List Pd}{c:List Ld}(h:AO w base T P L rs b d c)(a:base'<=base):AO w base' T P L rs b d c:=
 ⟨h.len,h.ai.mono a,fun i k r e f=>(h.refs i k r e f).mono a,h.pins.mono a,h.aq.mono a,h.nd⟩
theorem AO.lo{w:Zh}{base:Nat}{T P L:Value}{d:Zj}{f:List Kd}{k:List Pd}{j:List Ld}(h:AO w base T P L d f k j):∀g∈Bb T P L d,base<=g:=by
 intro g a;unfold Bb at a;simp only[List.mem_append,Option.mem_toList,List.mem_filterMap]at a;rcases a with a|a|a|⟨r,e,a⟩
 ·exact(Ac h.ai a).1
 ·exact(Ac h.pins a).1
 ·exact(Ac h.aq a).1
 ·obtain⟨i,b⟩:=List.getElem?_of_mem e;have c:=(Zw b).1;rw[h.len]at c;exact(Ac (h.refs i _ r (Zv c) b) a).1
theorem AO.cg{w:Zh}{base:Nat}{T P L:Value}{d:Zj}{f:List Kd}{k:List Pd}{j:List Ld}(h:AO w base T P L d f k j):∀g∈Bb T P L d,g<w.heap.size:=by
 intro g a;unfold Bb at a;simp only[List.mem_append,Option.mem_toList,List.mem_filterMap]at a;rcases a with a|a|a|⟨r,e,a⟩
 ·exact(Ac h.ai a).2
 ·exact(Ac h.pins a).2
 ·exact(Ac h.aq a).2
 ·obtain⟨i,b⟩:=List.getElem?_of_mem e;have c:=(Zw b).1;rw[h.len]at c;exact(Ac (h.refs i _ r (Zv c) b) a).2
theorem AO.apart{w j:Zh}{base:Nat}{T P L:Value}{d:Zj}{m:List Kd}{o:List Pd}{n:List Ld}(h:AO w base T P L d m o n){V:List Nat}(s:Tn V w j)(p:∀b∈V,b∉Bb T P L d):AO j base T P L d m o n:=by
 have c:∀g,g∈Bb T P L d->g<w.heap.size->j.heap[g]?=w.heap[g]?:=fun g a q=>s.block g q (fun e=>p g e a)
 refine⟨h.len,Ai h.ai (fun g a=>c g (by unfold Bb;simp[a]) (Ac h.ai a).2),fun i k r l f=>Ai (h.refs i k r l f) (fun g a=>c g (by unfold Bb;simp only[List.mem_append,List.mem_filterMap];exact .inr (.inr (.inr ⟨r,Zs f,a⟩))) (Ac (h.refs i k r l f) a).2),Ai h.pins (fun g a=>c g (by unfold Bb;simp[a]) (Ac h.pins a).2),Ai h.aq (fun g a=>c g (by unfold Bb;simp[a]) (Ac h.aq a).2),h.nd⟩
theorem AO.rows{w:Zh}{base:Nat}{T P L:Value}{a:Zj}{b:List Kd}{t:List Pd}{r:List Ld}(h:AO w base T P L a b t r):∃m u l s f q,T=.slice m b.length u/\P=.slice l t.length s/\L=.slice f r.length q/\Bv w w.heap.size m l f b t r:=by
 obtain⟨m,u,rfl⟩:=As h.ai;obtain⟨l,s,rfl⟩:=As h.pins;obtain⟨f,q,rfl⟩:=As h.aq;refine⟨m,u,l,s,f,q,rfl,rfl,rfl,⟨?_,AS.own h.pins,AU.own h.aq⟩⟩;rcases h.ai.2 with⟨_,p⟩|⟨g,F,G,e,J,A,_⟩
 ·exact .inl (List.length_eq_zero_iff.1 p)
 ·cases e;refine .inr ⟨g,0,rfl,(Array.getElem?_eq_some_iff.1 A).1,fun i k o=> ?_⟩;have K:=(Zw o).1;have hlen:=h.len;have v:a[i]?=some a[i]:=Zv (by omega);have C:(b.zip a)[i]?=some (k,a[i]):=List.getElem?_zip_eq_some.2 ⟨o,v⟩;have H:(b.zip a).length=b.length:=by rw[List.length_zip];omega
  have c:∀j,j<4->w.cell? (Ze g (i *4+j))=(kC (k,a[i]))[j]?:=fun j B=>(h.ai.cellAt (i *4+j) (by omega)).trans (Bp DX C B);have d:=h.refs i k _ o v;obtain⟨D,E,n⟩:=As d;rw[Nat.zero_add];refine⟨by simpa [kC]using c 0 (by decide),by simpa [kC]using c 1 (by decide),by simpa [kC]using c 2 (by decide),D,E,?_,?_⟩
  ·have:=c 3 (by decide);rw[←n];simpa [kC]using this
  ·rw[n]at d;rcases d.2 with⟨_,p⟩|⟨I,x,y,z,_⟩
   ·exact .inl (List.eq_nil_of_length_eq_zero p)
   ·cases z;exact Ad.own d
theorem Ov{a:List Kd}(h:∀k∈a,k.refs.length<=30):AF a<=30 *a.length:=by
 induction a with
 |nil=>simp[AF]
 |cons x xs ih=>rw[KJ];have c:=h x (by simp);have d:=ih (fun k b=>h k (by simp[b]));simp only[List.length_cons];omega
theorem GH.gb{w:Zh}{lo g p l:Nat}{b:List Kd}{j:List Pd}{f:List Ld}(h:GH w lo g p l b j f):Eg w ⟨g,0,none⟩ b:=by obtain⟨m,e,d,_⟩:=h.k;intro i x a;have k:=(Zw a).1;obtain⟨_,_,_,q,c,_⟩:=d i x a;refine⟨⟨q,0,none⟩,x.refs.length,?_⟩;rw[←c,Nat.zero_add];exact e.cellAt (i *4+3) (by omega)
theorem AO.same{w c:Zh}{base:Nat}{T P L:Value}{m:Zj}{f:List Kd}{l:List Pd}{j:List Ld}(h:AO w base T P L m f l j)(q:∀b,base<=b->b<w.heap.size->c.heap[b]?=w.heap[b]?):AO c base T P L m f l j:=by have a:∀{e:TypeId} {size:Nat} {v:Value} {n:Nat} {xs:Zj},w.ownsRow base e size v n xs->c.ownsRow base e size v n xs:=fun h=>Ai h (fun g d=>q g (Ac h d).1 (Ac h d).2);exact⟨h.len,a h.ai,fun i k r o p=>a (h.refs i k r o p),a h.pins,a h.aq,h.nd⟩
theorem Eg.below{w c:Zh}{g:Nat}{b:List Kd}(h:Eg w ⟨g,0,none⟩ b)(e:Zz w c):Eg c ⟨g,0,none⟩ b:=by intro i k f;obtain⟨d,j,a⟩:=h i k f;exact⟨d,j,(e.cell (p:=⟨g,0+i *4+3,none⟩) (World.block_lt_of_cell? w _ a)).trans a⟩
def Cx(S U T P L Q M:Value)(rs:Zj):List Nat:=((Ak S).toList++(Ak U).toList)++(Bb T P L rs++((Ak Q).toList++(Ak M).toList))
structure AL (w:Zh) (base:Nat) (S U T P L Q M:Value) (rs:Zj) (v:Vd):Prop where
 s:Ao w base S v.ss
 u:Ao w base U v.tt
 st:AO w base T P L rs v.ks v.ps v.ls
 q:Ao w base Q v.qs
 m:Ao w base M v.ms
 nd:(Cx S U T P L Q M rs).Nodup
theorem AL.lo{w:Zh}{base:Nat}{S U T P L Q M:Value}{b:Zj}{v:Vd}(h:AL w base S U T P L Q M b v):∀g∈Cx S U T P L Q M b,base<=g:=by
 intro g a;unfold Cx at a;simp only[List.mem_append,Option.mem_toList]at a;rcases a with(a|a)|a|a|a
 ·exact(h.s.bj a).1
 ·exact(h.u.bj a).1
 ·exact h.st.lo g a
 ·exact(h.q.bj a).1
 ·exact(h.m.bj a).1
theorem AL.cg{w:Zh}{base:Nat}{S U T P L Q M:Value}{b:Zj}{v:Vd}(h:AL w base S U T P L Q M b v):∀g∈Cx S U T P L Q M b,g<w.heap.size:=by
 intro g a;unfold Cx at a;simp only[List.mem_append,Option.mem_toList]at a;rcases a with(a|a)|a|a|a
 ·exact(h.s.bj a).2
 ·exact(h.u.bj a).2
 ·exact h.st.cg g a
 ·exact(h.q.bj a).2
 ·exact(h.m.bj a).2
theorem AL.stays{w i:Zh}{base:Nat}{S U T P L Q M:Value}{d:Zj}{v:Vd}(h:AL w base S U T P L Q M d v){V:List Nat}(c:Tn V w i)(j:∀b∈V,b∉Cx S U T P L Q M d):AL i base S U T P L Q M d v:=by have e:∀b∈Cx S U T P L Q M d,b∉V:=fun b f k=>j b k f;unfold Cx at e;simp only[List.mem_append,Option.mem_toList]at e;exact⟨h.s.an c (fun g a=>e g (.inl (.inl a))),h.u.an c (fun g a=>e g (.inl (.inr a))),h.st.apart c (fun b f l=>e b (.inr (.inl l)) f),h.q.an c (fun g a=>e g (.inr (.inr (.inl a)))),h.m.an c (fun g a=>e g (.inr (.inr (.inr a)))),h.nd⟩
theorem AL.below{w a:Zh}{base:Nat}{S U T P L Q M:Value}{rs:Zj}{v:Vd}(h:AL w base S U T P L Q M rs v)(b:Zz w a):AL a base S U T P L Q M rs v:=
 h.stays (V:=[]) (Tn.of b) (by simp)
theorem AL.mono{w:Zh}{base base':Nat}{S U T P L Q M:Value}{rs:Zj}{v:Vd}(h:AL w base S U T P L Q M rs v)(a:base'<=base):AL w base' S U T P L Q M rs v:=
 ⟨h.s.mono a,h.u.mono a,h.st.mono a,h.q.mono a,h.m.mono a,h.nd⟩
theorem AL.same{w e:Zh}{base:Nat}{S U T P L Q M:Value}{f:Zj}{v:Vd}(h:AL w base S U T P L Q M f v)(d:w.heap.size<=e.heap.size)(c:∀b,base<=b->b<w.heap.size->e.heap[b]?=w.heap[b]?):AL e base S U T P L Q M f v:=
 ⟨h.s.stays d (fun g a=>c g (h.s.bj a).1 (h.s.bj a).2),h.u.stays d (fun g a=>c g (h.u.bj a).1 (h.u.bj a).2),h.st.same c,h.q.stays d (fun g a=>c g (h.q.bj a).1 (h.q.bj a).2),h.m.stays d (fun g a=>c g (h.m.bj a).1 (h.m.bj a).2),h.nd⟩
theorem AL.of{w:Zh}{base n1 n2:Nat}{S U T P L Q M:Value}{h:Zj}{v:Vd}(x:Ao w base S v.ss)(y:Ao w base U v.tt)(l:∀g,Ak S=some g->Ak U≠some g)(n:∀g,Ak S=some g∨Ak U=some g->g<n1)
 (f:AO w n1 T P L h v.ks v.ps v.ls) (c:base<=n1) (p:∀g∈Bb T P L h,g<n2) (t:Ao w base Q v.qs) (r:Ao w base M v.ms) (i:∀g,Ak Q=some g∨Ak M=some g->n2<=g) (A:n1<=n2) (k:∀g,Ak Q=some g->Ak M≠some g):AL w base S U T P L Q M h v:=by
 refine⟨x,y,f.mono c,t,r,?_⟩;have j:=f.nd;rw[Fh]at j;have de:=f.lo;unfold Cx;generalize Bb T P L h=B at *
 generalize Ak S=s at *
 generalize Ak U=u at *
 generalize Ak Q=q at *
 generalize Ak M=m at *
 have one:∀o:Option Nat,o.toList.Nodup:=fun o=>by cases o<;>simp
 simp only[List.nodup_append,List.mem_append,Option.mem_toList];refine⟨⟨one _,one _,fun a d b c e=>l a d (e▸c)⟩,⟨j,⟨one _,one _,fun a d b c e=>k a d (e▸c)⟩,fun a d b c e=> ?_⟩,fun a d b c e=> ?_⟩
 ·have z:=p a d;have C:=i b c;omega
 ·have z:=n a d;rcases c with c|c
  ·have:=de b c;omega
  ·have:=i b c;omega
def EL(k:Nat)(v:Vd):Vd:=
 {v with
  ss:=marks k v.ss.length
  tt:=marks (k+v.ss.length) v.tt.length
  ks:=Cc (k+v.ss.length+v.tt.length) v.ks
  ps:=DL (k+v.ss.length+v.tt.length+v.ks.length *3+AF v.ks) v.ps
  ls:=DM (k+v.ss.length+v.tt.length+v.ks.length *3+AF v.ks+v.ps.length *2) v.ls
  qs:=marks (k+v.ss.length+v.tt.length+CB v.ks v.ps v.ls) v.qs.length
  ms:=marks (k+v.ss.length+v.tt.length+CB v.ks v.ps v.ls+v.qs.length) v.ms.length}
def CS(v:Vd):Nat:=v.ss.length+v.tt.length+CB v.ks v.ps v.ls+v.qs.length+v.ms.length
theorem Vm(base k:Nat)(S U:Value)(a c:Zl)(w:Zh)(r:Ao w base S a)(s:Ao w base U c)(v:∀g,Ak S=some g->Ak U≠some g)(N:1<=k)(Q:k+a.length+c.length<=100000000):
 Calls prog 25 #[.agg #[S,U],Zg k] w fun e B=>e=.returned (Zg (k+a.length+c.length:Nat))/\Ao B base S (marks k a.length)/\Ao B base U (marks (k+a.length) c.length)/\Tn ((Ak S).toList++(Ak U).toList) w B:=by
 obtain⟨j,l,rfl,_⟩:=r.row;obtain⟨f,i,rfl,_⟩:=s.row;obtain⟨W,p⟩:∃W,W=w.alloc (.cells #[.slice j a.length l,.slice f c.length i] 35):=⟨_,rfl⟩;have t:=(AG p).1;have F:=(AG p).2.2;have E:Hid (Aa W _ _):=(AG p).2.2;obtain⟨P,_⟩:=F 0 _ rfl;have A:Hid (Ao W base (.slice j a.length l) a/\Ao W base (.slice f c.length i) c):=⟨r.below t,s.below t⟩
 have J:Hid ((∀g,Ak (.slice j a.length l)=some g->g<w.heap.size)/\(∀g,Ak (.slice f c.length i)=some g->g<w.heap.size)):=⟨fun g d=>(r.bj d).2,fun g d=>(s.bj d).2⟩;have HN:=Yx v;have D:=Yx p;have L:Hid (Zz w W):=t;clear r s v p F t;go_enter func25,ntmps25;go_upto_region 1 with fail;rw[←D.o];clear D;go_wp2_with fail;refine(Ht base k _ a W A.o.1 N (by omega)).mono ?_;rintro e o ⟨rfl,x,m⟩
 have K:w.heap.size<W.heap.size:=Aa.lt E.o;have z:Aa o w.heap.size [.slice j a.length l,.slice f c.length i]:=Aa.same E.o (m.block _ K (fun e=>by have:=J.o.1 _ e.symm;omega));have u:Ao o base (.slice f c.length i) c:=A.o.2.stays m.size (fun g d=>m.block g (A.o.2.bj d).2 (fun e=>HN.o g e.symm d));obtain⟨O,_⟩:=z 1 _ rfl;have G:Hid (Ao o base (.slice f c.length i) c):=u;have q:=Yx (Zb x m)
 clear P z u x m;go_wp2_with fail;refine(Ht base (k+a.length) _ c o G.o (by omega) (by omega)).mono ?_;rintro e C ⟨rfl,y,n⟩;have I:Hid (Ao C base (.slice j a.length l) (marks k a.length)):=q.o.1.stays n.size (fun g d=>n.block g (q.o.1.bj d).2 (fun e=>HN.o g d e.symm))
 have M:Hid (Tn ((Ak (.slice j a.length l)).toList++(Ak (.slice f c.length i)).toList) w C):=((Tn.of L.o).trans ((Ct q.o.2).mono (by simp;exact fun b h=> .inl h))).trans ((Ct n).mono (by simp;exact fun b h=> .inr h));have H:=Yx y;clear O y n;go_wp2;go_ret;exact⟨rfl,I.o,H.o,M.o⟩
theorem vnd{S U T P L Q M:Value}{c:Zj}(h:(Cx S U T P L Q M c).Nodup):
 (∀g,Ak S=some g->Ak U≠some g/\g∉Bb T P L c/\Ak Q≠some g/\Ak M≠some g)/\(∀g,Ak U=some g->g∉Bb T P L c/\Ak Q≠some g/\Ak M≠some g)/\(∀g∈Bb T P L c,Ak Q≠some g/\Ak M≠some g)/\(∀g,Ak Q=some g->Ak M≠some g):=by
 unfold Cx at h;generalize Bb T P L c=B at *
 generalize Ak S=s at *
 generalize Ak U=u at *
 generalize Ak Q=q at *
 generalize Ak M=m at *
 simp only[List.nodup_append,List.mem_append,Option.mem_toList]at h;obtain⟨⟨_,_,f⟩,⟨_,⟨_,_,i⟩,d⟩,b⟩:=h
 refine⟨fun g a=>⟨fun e=>f g a g e rfl,fun e=>b g (.inl a) g (.inl e) rfl,fun e=>b g (.inl a) g (.inr (.inl e)) rfl,fun e=>b g (.inl a) g (.inr (.inr e)) rfl⟩,fun g a=>⟨fun e=>b g (.inr a) g (.inl e) rfl,fun e=>b g (.inr a) g (.inr (.inl e)) rfl,fun e=>b g (.inr a) g (.inr (.inr e)) rfl⟩,fun g a=>⟨fun e=>d g a g (.inl e) rfl,fun e=>d g a g (.inr e) rfl⟩,fun g a e=>i g a g e rfl⟩
theorem Lf(v:Vd)(base k:Nat)(S U T P L Q M:Value)(u:Zj)(w:Zh)(h:AL w base S U T P L Q M u v)(hk:1<=k)(G:k+CS v<=100000000):
 Calls prog 10 #[.agg #[Zg v.wd,Zg v.ak,S,U,Zg v.sw,Zg v.now,Zg v.given,Zg v.ae,T,P,L,Zg v.ph,Q,M,Zg v.ag,Zg v.at_,Zg v.ro],Zg k] w fun e w'=>e=.returned (Zg (k+CS v:Nat))/\AL w' base S U T P L Q M u (EL k v)/\Tn (Cx S U T P L Q M u) w w':=by
 obtain⟨d,f,rfl,_⟩:=h.s.row;obtain⟨i,j,rfl,_⟩:=h.u.row;obtain⟨x,y,rfl⟩:=As h.st.ai;obtain⟨q,r,rfl⟩:=As h.st.pins;obtain⟨m,n,rfl⟩:=As h.st.aq;obtain⟨s,t,rfl,_⟩:=h.q.row;obtain⟨o,p,rfl,_⟩:=h.m.row;obtain⟨W,H⟩:∃W,W=w.alloc (.cells (Ye v d f i j x y q r m n s t o p) 43):=⟨_,rfl⟩;have a:=(AG H).1;have hz:=(AG H).2.2;have HZ:Hid (Aa W _ _):=(AG H).2.2
 have F:Hid (AL W base (.slice d v.ss.length f) (.slice i v.tt.length j) (.slice x v.ks.length y) (.slice q v.ps.length r) (.slice m v.ls.length n) (.slice s v.qs.length t) (.slice o v.ms.length p) u v):=h.below a
 have I:Hid (∀g∈Cx (.slice d v.ss.length f) (.slice i v.tt.length j) (.slice x v.ks.length y) (.slice q v.ps.length r) (.slice m v.ls.length n) (.slice s v.qs.length t) (.slice o v.ms.length p) u,g<w.heap.size):=h.cg;have HN:=Yx (vnd h.nd)
 have zS:Hid ((Cx (.slice d v.ss.length f) (.slice i v.tt.length j) (.slice x v.ks.length y) (.slice q v.ps.length r) (.slice m v.ls.length n) (.slice s v.qs.length t) (.slice o v.ms.length p) u).Nodup):=h.nd;have zP:w.heap.size<W.heap.size:=Aa.lt hz;obtain⟨c2,c3⟩:=Aa.c2 hz 2 3;have HW:=Yx H;have HB:Hid (Zz w W):=a;have zZ:k+v.ss.length+v.tt.length<=100000000:=by unfold CS at G;omega
 have yA:k+v.ss.length+v.tt.length+CB v.ks v.ps v.ls<=100000000:=by unfold CS at G;omega
 have yB:k+v.ss.length+v.tt.length+CB v.ks v.ps v.ls+v.qs.length+v.ms.length<=100000000:=by unfold CS at G;omega
 have zR:Hid (k+CS v=k+v.ss.length+v.tt.length+CB v.ks v.ps v.ls+v.qs.length+v.ms.length):=by show k+CS v=_;unfold CS;omega
 rw[zR.o];clear h H hz a G;go_enter func10,ntmps10;go_upto_region 1 with fail;rw[←HW.o];clear HW;go_wp2_with fail;refine(Vm base k _ _ v.ss v.tt W F.o.s F.o.u (fun g c=>(HN.o.1 g c).1) hk zZ).mono ?_;rintro e N ⟨rfl,zI,zM,z⟩;have n1:∀b∈(Ak (.slice d v.ss.length f)).toList++(Ak (.slice i v.tt.length j)).toList,b<w.heap.size:=fun b a=>I.o b (by unfold Cx;exact List.mem_append.2 (.inl a))
 have z1:Aa N w.heap.size (Yd v d f i j x y q r m n s t o p):=Aa.same HZ.o (z.block _ zP (fun e=>by have:=n1 _ e;omega));have J:∀b∈(Ak (.slice d v.ss.length f)).toList++(Ak (.slice i v.tt.length j)).toList,b∉Bb (.slice x v.ks.length y) (.slice q v.ps.length r) (.slice m v.ls.length n) u/\Ak (.slice s v.qs.length t)≠some b/\Ak (.slice o v.ms.length p)≠some b:=by
  intro b a;simp only[List.mem_append,Option.mem_toList]at a;rcases a with a|a
  ·exact(HN.o.1 b a).2
  ·exact HN.o.2.1 b a
 have V:=F.o.st.apart z (fun b a=>(J b a).1);have zF:=F.o.q.an z (fun g c e=>(J g e).2.1 c);have zB:=F.o.m.an z (fun g c e=>(J g e).2.2 c);have B:=Yx (Zn zI (Zn zM (Zn V (Zn zF (Zn zB ((Tn.of HB.o).trans z))))));have D:w.heap.size<N.heap.size:=Zr zP z.size;have R:=Yx z1;clear zI zM V zF zB z c2 c3 HZ F J n1;obtain⟨c4,c5,c6,c7,c8,c9,zT⟩:=Aa.c7 z1 4 5 6 7 8 9 10;clear z1;go_wp2_with fail
 refine(Rr v.sw v.now v.given v.ae base (k+v.ss.length+v.tt.length) _ _ _ u v.ks v.ps v.ls N B.o.2.2.1 (by omega) yA).mono ?_;rintro e O ⟨rfl,X,l⟩;have z2:Aa O w.heap.size (Yd v d f i j x y q r m n s t o p):=Aa.same R.o (l.block _ D (fun e=>by have:=I.o _ (by unfold Cx;exact List.mem_append.2 (.inr (List.mem_append.2 (.inl e))));omega));have zJ:=B.o.1.an l (fun g c e=>(HN.o.1 g c).2.1 e)
 have zN:=B.o.2.1.an l (fun g c e=>(HN.o.2.1 g c).1 e);have zG:=B.o.2.2.2.1.an l (fun g c e=>(HN.o.2.2.1 g e).1 c);have zC:=B.o.2.2.2.2.1.an l (fun g c e=>(HN.o.2.2.1 g e).2 c)
 have Z:Tn (Cx (.slice d v.ss.length f) (.slice i v.tt.length j) (.slice x v.ks.length y) (.slice q v.ps.length r) (.slice m v.ls.length n) (.slice s v.qs.length t) (.slice o v.ms.length p) u) w O:=(B.o.2.2.2.2.2.mono (fun b a=>by unfold Cx;exact List.mem_append.2 (.inl a))).trans (l.mono (fun b a=>by unfold Cx;exact List.mem_append.2 (.inr (List.mem_append.2 (.inl a)))))
 have C:=Yx (Zn zJ (Zn zN (Zn X (Zn zG (Zn zC Z)))));have yC:w.heap.size<O.heap.size:=Zr D l.size;clear zJ zN X zG zC l Z B R c4 c5 c6 c7 c8 c9 zT;obtain⟨zU,Mx,zV,zW,zX,zY⟩:=Aa.c6 z2 11 12 13 14 15 16;clear z2;go_wp2_with fail;refine(Rz v.ph v.ag v.at_ v.ro base (k+v.ss.length+v.tt.length+CB v.ks v.ps v.ls) _ _ v.qs v.ms O C.o.2.2.2.1 C.o.2.2.2.2.1 (fun g c=>HN.o.2.2.2 g c) (by omega) yB).mono ?_
 rintro e w3 ⟨rfl,zH,zE,A⟩;have K:∀b∈(Ak (.slice s v.qs.length t)).toList++(Ak (.slice o v.ms.length p)).toList,Ak (.slice d v.ss.length f)≠some b/\Ak (.slice i v.tt.length j)≠some b/\b∉Bb (.slice x v.ks.length y) (.slice q v.ps.length r) (.slice m v.ls.length n) u:=by
  intro b a;simp only[List.mem_append,Option.mem_toList]at a;rcases a with a|a
  ·exact⟨fun e=>(HN.o.1 b e).2.2.1 a,fun e=>(HN.o.2.1 b e).2.1 a,fun e=>(HN.o.2.2.1 b e).1 a⟩
  ·exact⟨fun e=>(HN.o.1 b e).2.2.2 a,fun e=>(HN.o.2.1 b e).2.2 a,fun e=>(HN.o.2.2.1 b e).2 a⟩
 have zK:=C.o.1.an A (fun g c e=>(K g e).1 c);have zO:=C.o.2.1.an A (fun g c e=>(K g e).2.1 c);have Y:=C.o.2.2.1.apart A (fun b a=>(K b a).2.2)
 have zA:Tn (Cx (.slice d v.ss.length f) (.slice i v.tt.length j) (.slice x v.ks.length y) (.slice q v.ps.length r) (.slice m v.ls.length n) (.slice s v.qs.length t) (.slice o v.ms.length p) u) w w3:=C.o.2.2.2.2.2.trans (A.mono (fun b a=>by unfold Cx;exact List.mem_append.2 (.inr (List.mem_append.2 (.inr a)))));have E:Hid (_/\_):=Zn zA (Zn zK (Zn zO (Zn Y (Zn zH zE))))
 clear zK zO Y zH zE A zA C K zU Mx zV zW zX zY I HN;go_wp2;go_ret;exact⟨rfl,⟨E.o.2.1,E.o.2.2.1,E.o.2.2.2.1,E.o.2.2.2.2.1,E.o.2.2.2.2.2,zS.o⟩,E.o.1⟩
theorem RC(v:Vd)(base k:Nat)(S U T P L Q M:Value)(E:Zj)(w:Zh)(h:AL w base S U T P L Q M E (EL k v))(hk:1<=k)(d:k+CS v<=100000000):
 Calls prog 28 #[.agg #[Zg v.wd,Zg v.ak,S,U,Zg v.sw,Zg v.now,Zg v.given,Zg v.ae,T,P,L,Zg v.ph,Q,M,Zg v.ag,Zg v.at_,Zg v.ro],Zg k] w fun e w'=>e=.returned (Zg (k+CS v:Nat))/\Zz w w':=by
 obtain⟨i,t,V,hS⟩:=h.s.row;obtain⟨j,y,Y,hU⟩:=h.u.row;obtain⟨u,x,X⟩:=As h.st.ai;obtain⟨q,r,O⟩:=As h.st.pins;obtain⟨n,o,K⟩:=As h.st.aq;obtain⟨g,s,R,hQ⟩:=h.q.row;obtain⟨f,p,N,Z⟩:=h.m.row;have l1:(EL k v).ss.length=v.ss.length:=BG _ _;have l2:(EL k v).tt.length=v.tt.length:=BG _ _;have l3:(EL k v).ks.length=v.ks.length:=BJ _ _;have l4:(EL k v).ps.length=v.ps.length:=Eo _ _
 have l5:(EL k v).ls.length=v.ls.length:=Fp _ _;have l6:(EL k v).qs.length=v.qs.length:=BG _ _;have l7:(EL k v).ms.length=v.ms.length:=BG _ _;rw[l1]at V;rw[l2]at Y;rw[l3]at X;rw[l4]at O;rw[l5]at K;rw[l6]at R;rw[l7]at N;subst V Y X O K R N;obtain⟨W,m⟩:∃W,W=w.alloc (.cells (Ye v i t j y u x q r n o g s f p) 43):=⟨_,rfl⟩;have hb:=(AG m).1;have hz:=(AG m).2.2;have J:Hid (Aa W _ _):=(AG m).2.2
 have H:Hid (AO w base (.slice u v.ks.length x) (.slice q v.ps.length r) (.slice n v.ls.length o) E (Cc (k+v.ss.length+v.tt.length) v.ks) (DL (k+v.ss.length+v.tt.length+v.ks.length *3+AF v.ks) v.ps) (DM (k+v.ss.length+v.tt.length+v.ks.length *3+AF v.ks+v.ps.length *2) v.ls)):=h.st;have l:=Yx (Zb hS (Zb hU (Zb hQ Z)));obtain⟨c2,c3⟩:=Aa.c2 hz 2 3;have I:=Yx m;have b:Hid (Zz w W):=hb
 have zJ:k+v.ss.length+v.tt.length<=100000000:=by unfold CS at d;omega
 have zK:k+v.ss.length+v.tt.length+CB v.ks v.ps v.ls<=100000000:=by unfold CS at d;omega
 have zM:k+v.ss.length+v.tt.length+CB v.ks v.ps v.ls+v.qs.length+v.ms.length<=100000000:=by unfold CS at d;omega
 have zB:Hid (k+CS v=k+v.ss.length+v.tt.length+CB v.ks v.ps v.ls+v.qs.length+v.ms.length):=by show k+CS v=_;unfold CS;omega
 rw[zB.o];clear h m hz hb d hS hU hQ Z l1 l2 l3 l4 l5 l6 l7;go_enter func28,ntmps28;go_upto_region 1 with fail;rw[←I.o];clear I;go_wp2_with fail;refine(Pz i j v.ss.length v.tt.length t y k W ((l.o.1.below b.o).mono b.o.size) ((l.o.2.1.below b.o).mono b.o.size) hk zJ).mono ?_;rintro e B ⟨rfl,z⟩;have G:Aa B w.heap.size (Yd v i t j y u x q r n o g s f p):=Aa.below J.o z;have C:=Yx G
 have c:Hid (Zz w B):=b.o.trans (z.mono b.o.size);obtain⟨c4,c5,c6,c7,c8,c9,zC⟩:=Aa.c7 G 4 5 6 7 8 9 10;clear G z c2 c3 J b;go_wp2_with fail;refine(Rt v.sw v.now v.given v.ae base (k+v.ss.length+v.tt.length) _ _ _ E v.ks v.ps v.ls B (H.o.below c.o) (by omega) zK).mono ?_;rintro e F ⟨rfl,A⟩;have z2:Aa F w.heap.size (Yd v i t j y u x q r n o g s f p):=Aa.below C.o A
 have a:Hid (Zz w F):=c.o.trans (A.mono c.o.size);obtain⟨zE,Mx,zF,zG,zH,zI⟩:=Aa.c6 z2 11 12 13 14 15 16;clear z2 A c4 c5 c6 c7 c8 c9 zC C c;go_wp2_with fail;refine(MZ v.ph v.ag v.at_ v.ro g f v.qs.length v.ms.length s p (k+v.ss.length+v.tt.length+CB v.ks v.ps v.ls) F ((l.o.2.2.1.below a.o).mono a.o.size) ((l.o.2.2.2.below a.o).mono a.o.size) (by omega) zM).mono ?_;rintro e w3 ⟨rfl,D⟩
 have zA:Hid (Zz w w3):=a.o.trans (D.mono a.o.size);clear zE Mx zF zG zH zI D a l H;go_wp2;go_ret;exact⟨rfl,zA.o⟩
def BS(v:Vd)(S U T P L Q M:Value):Zj:=[Zg v.wd,Zg v.ak,S,U,Zg v.sw,Zg v.now,Zg v.given,Zg v.ae,T,P,L,Zg v.ph,Q,M,Zg v.ag,Zg v.at_,Zg v.ro]
def Lg(v:Vd)(L:Nat)(X:Zh)(cs:Zj):Prop:=
 ∃a:Va,cs=BS v (.slice a.sa v.ss.length a.sc) (.slice a.ta v.tt.length a.tc) (.slice a.ka v.ks.length a.kc) (.slice a.pa v.ps.length a.pc) (.slice a.la v.ls.length a.lc) (.slice a.qa v.qs.length a.qc) (.slice a.ma v.ms.length a.mc)/\BR X L a v
def JW(v u:Vd)(lo N:Nat)(X:Zh)(cs:Zj):Prop:=
 (N<=X.heap.size/\lo<=X.heap.size)/\∃S U T P L Q M rs,cs=BS v S U T P L Q M/\AL X lo S U T P L Q M rs u/\∀g∈Cx S U T P L Q M rs,g<N
theorem AL.gj{X:Zh}{base:Nat}{S U T P L Q M:Value}{o:Zj}{v:Vd}(h:AL X base S U T P L Q M o v):Lg v X.heap.size X (BS v S U T P L Q M):=by obtain⟨p,q,rfl,a⟩:=h.s.row;obtain⟨t,u,rfl,b⟩:=h.u.row;obtain⟨r,s,k,l,f,g,rfl,rfl,rfl,c⟩:=h.st.rows;obtain⟨m,n,rfl,d⟩:=h.q.row;obtain⟨i,j,rfl,e⟩:=h.m.row;exact⟨⟨p,q,t,u,r,s,k,l,f,g,m,n,i,j⟩,rfl,⟨a,b,c,d,e⟩⟩
theorem AO.at{w w':Zh}{base:Nat}{T P L:Value}{c:Zj}{e:List Kd}{j:List Pd}{f:List Ld}(h:AO w base T P L c e j f)(b:∀g∈Bb T P L c,w'.heap[g]?=w.heap[g]?):AO w' base T P L c e j f:=
 ⟨h.len,Ai h.ai (fun g a=>b g (by unfold Bb;simp[a])),fun i k r l d=>Ai (h.refs i k r l d) (fun g a=>b g (by unfold Bb;simp only[List.mem_append,List.mem_filterMap];exact .inr (.inr (.inr ⟨r,Zs d,a⟩)))),Ai h.pins (fun g a=>b g (by unfold Bb;simp[a])),Ai h.aq (fun g a=>b g (by unfold Bb;simp[a])),h.nd⟩
theorem AL.aj{X c:Zh}{lo N:Nat}{S U T P L Q M:Value}{d:Zj}{u:Vd}(b:AL X lo S U T P L Q M d u)(h:∀g∈Cx S U T P L Q M d,g<N)(f:X.heap.size<=c.heap.size)(j:∀q,lo<=q->q<N->c.heap[q]?=X.heap[q]?):AL c lo S U T P L Q M d u:=by
 have e:∀g∈Cx S U T P L Q M d,c.heap[g]?=X.heap[g]?:=fun g a=>j g (b.lo g a) (h g a);have i:∀g∈Bb T P L d,c.heap[g]?=X.heap[g]?:=fun g a=>e g (by unfold Cx;simp only[List.mem_append];exact .inr (.inl a));unfold Cx at e;simp only[List.mem_append,Option.mem_toList]at e
 exact⟨b.s.stays f (fun g a=>e g (.inl (.inl a))),b.u.stays f (fun g a=>e g (.inl (.inr a))),b.st.at i,b.q.stays f (fun g a=>e g (.inr (.inr (.inl a)))),b.m.stays f (fun g a=>e g (.inr (.inr (.inr a)))),b.nd⟩
theorem JW.aj{v u:Vd}{lo N:Nat}{X a:Zh}{c:Zj}(h:JW v u lo N X c)(b:X.heap.size<=a.heap.size)(g:∀q,lo<=q->q<N->a.heap[q]?=X.heap[q]?):JW v u lo N a c:=by obtain⟨e,S,U,T,P,L,Q,M,i,rfl,f,d⟩:=h;exact⟨⟨Zm e.1 b,Zm e.2 b⟩,S,U,T,P,L,Q,M,i,rfl,f.aj d b g,d⟩
theorem Cr.ib{v:Vd}(h:Cr v):1000+CS v<=90000000:=by unfold CS CB;have:=h.s;have:=h.t;have:=h.st.k;have:=h.st.p;have:=h.st.l;have:=h.r.q;have:=h.r.m;have:=h.rn;omega
theorem ZJ(v:Vd)(l:Cr v):Iq 17 1 9 10 (Lg v) (JW v v) (fun lo N X d K=>K=1+CS v/\JW v (EL 1 v) lo N X d):=by
 refine⟨?_,?_,?_,?_,?_,?_,?_,?_⟩
 ·rintro X d y ⟨a,rfl,c⟩ ⟨b,rfl,g⟩;exact JV v a b X c g l
 ·rintro lo N X d k ⟨f,S,U,T,P,L,Q,M,o,rfl,c,g⟩ u w;obtain rfl:k=1:=by omega
  refine(Lf v lo 1 S U T P L Q M o X c (by omega) (by have:=l.ib;omega)).mono ?_;rintro e j ⟨rfl,r,i⟩;exact⟨⟨1+CS v,rfl,by omega,by have:=l.ib;omega,rfl,⟨Zm f.1 i.size,Zm f.2 i.size⟩,S,U,T,P,L,Q,M,o,rfl,r,g⟩,i.below f.2 c.lo,fun q z p=>i.block q p (fun e=>by have:=g q e;omega)⟩
 ·rintro L X j d ⟨a,rfl,c⟩ s;exact⟨a,rfl,c.aj s⟩
 ·rintro L x X d ⟨a,rfl,c⟩ t;exact⟨a,rfl,c.mono t⟩
 ·intro lo N X j d h n m;exact h.aj n m
 ·rintro lo N X j d K ⟨rfl,h⟩ n m;exact⟨rfl,h.aj n m⟩
 ·rintro lo N X d ⟨f,S,U,T,P,L,Q,M,o,rfl,c,_⟩;exact⟨f.1,c.gj⟩
 ·rintro L X d ⟨a,rfl,_⟩;exact⟨rfl,by simp[BS,Value.oneCell']⟩
theorem YA(v:Vd)(d:Cr v)(lo N:Nat)(X:Zh)(a:Zj)(K:Nat)(h:K=1+CS v/\JW v (EL 1 v) lo N X a):
 Calls prog 28 #[.agg a.toArray,Zg 1] X fun e b=>e=.returned (Zg K)/\Zz X b:=by
 obtain⟨rfl,g,S,U,T,P,L,Q,M,f,rfl,c,_⟩:=h;exact RC v lo 1 S U T P L Q M f X c (by omega) (by have:=d.ib;omega)
theorem AL.voa{X:Zh}{base:Nat}{S U T P L Q M:Value}{a:Zj}{v:Vd}(h:AL X base S U T P L Q M a v)(b:base<=X.heap.size):JW v v base X.heap.size X (BS v S U T P L Q M):=
 ⟨⟨Zx,b⟩,S,U,T,P,L,Q,M,a,rfl,h,h.cg⟩
theorem Bt.grown{w f:Zh}{b q:Nat}{d ag c e:Int}{Q M:Value}(h:Bt w b d Q M ag c e)(a:w.grownBy f (some q))(n:b≠q):Bt f b d Q M ag c e:=by obtain⟨g,i,j,k,l,m,p⟩:=h;have o:=a.size;exact⟨a.cell g (by simp;omega),a.cell i (by simp;omega),a.cell j (by simp;omega),a.cell k (by simp;omega),a.cell l (by simp;omega),a.cell m (by simp;omega),by omega⟩
theorem PA(q ag i r:Int)(g h C A:Nat)(a d:Zl)(w:Zh)(hq:Ad w w.heap.size (some ⟨g,0,none⟩) a)(hm:Ad w w.heap.size (some ⟨h,0,none⟩) d)(hf:Gj a d):
 Calls prog 70 #[.agg (Yk q (some ⟨g,0,none⟩) a.length C (some ⟨h,0,none⟩) d.length A ag i r)] w fun e U=>∃x j y B,e=.returned (.agg (Yk q (some ⟨x,0,none⟩) a.length j (some ⟨y,0,none⟩) d.length B ag i r))/\
  U.ownsRow w.heap.size 9 1 (Za x a.length j) a.length (a.map Value.string)/\U.ownsRow w.heap.size 9 1 (Za y d.length B) d.length (d.map Value.string)/\x≠y/\Zz w U:=by
 have zF:=hf.q;have zE:=hf.m;obtain⟨i0,hi,Q,R,S⟩:=info_parts CK;obtain⟨W,n⟩:∃W,W=((w.alloc (.cells (Yk q (some ⟨g,0,none⟩) a.length C (some ⟨h,0,none⟩) d.length A ag i r) 41)).alloc (.cells Yj 41)).alloc (.cells (Yk q (some ⟨g,0,none⟩) a.length C (some ⟨h,0,none⟩) d.length A ag i r) 41):=⟨_,rfl⟩;have t:Below w.heap.size w W:=by rw[n];exact((Zy).alloc (by simp) _).alloc (by simp;omega) _
 have x2:Bt W (w.heap.size+1+1) q (Za g a.length C) (Za h d.length A) ag i r:=by rw[n];exact⟨by simp[go_sem],by simp[go_sem],by simp[go_sem],by simp[go_sem],by simp[go_sem],by simp[go_sem],by simp⟩
 have x1:Bt W (w.heap.size+1) 0 Zc Zc 0 0 0:=by rw[n];exact⟨by simp[go_sem],by simp[go_sem],by simp[go_sem],by simp[go_sem],by simp[go_sem],by simp[go_sem],by simp<;>omega⟩
 have x0:Bt W w.heap.size q (Za g a.length C) (Za h d.length A) ag i r:=by rw[n];exact⟨by simp[go_sem],by simp[go_sem],by simp[go_sem],by simp[go_sem],by simp[go_sem],by simp[go_sem],by simp<;>omega⟩
 have f2:∀o,W.frozen? ⟨w.heap.size+1+1,o,none⟩=false:=fun o=>by rw[n];simp[go_sem]
 have f1:∀o,W.frozen? ⟨w.heap.size+1,o,none⟩=false:=fun o=>by rw[n];simp[go_sem]
 have zC:W.heap.size=w.heap.size+3:=by rw[n];simp
 have Y:=Yx n;clear n;go_enter func70,ntmps70;go_wp2_with (first
  |(at_builtin;refine wpList_append_own _ rfl _ _ 22 rfl (w.heap.size+3) 9 i0 Zd 1 16 underlying22 hi Q R S rfl (by decide) _ 0 (([]:Zl).map Value.string) rfl ?d0 ⟨g,0,none⟩ a.length C (a.map Value.string) rfl ?d1 ?d2 ?d3 ?d4 ?d5 ?d6 ?_)
  |go_in)
 all_goals try rw[←Y.o]
 case d0=>
  have:=World.ownsRow_lit (base:=w.heap.size+3) (e:=9) (size:=1) W #[] 0 (by omega) (by unfold maxLen;omega) rfl;rw[zC]at this;exact this
 case d1=>simp
 case d2=>exact(hq.below (t.alloc t.size _)).cj
 case d3=>exact No a
 case d4=>unfold maxLen;omega
 case d5=>omega
 case d6=>simp;omega
 intro v1 l u E L;have F:∃x j,v1=Za x a.length j:=by have:=Ke u L;simpa using this
 obtain⟨x,j,rfl⟩:=F;try simp only[Nat.zero_add,List.map_nil,List.nil_append]at u
 have H:=E.size;have b:(W.alloc (.cells #[] 9)).grownBy l (some (w.heap.size+3)):=by simpa [Value.ownBlock]using E
 have f:Below W.heap.size W (W.alloc (.cells #[] 9)):=Zy;have y0:=(x0.below f).grown b (by omega);have y1:=(x1.below f).grown b (by omega);have y2:=(x2.below f).grown b (by omega);have e2:∀o,l.frozen? ⟨w.heap.size+1+1,o,none⟩=false:=fun o=>(b.frozen_far ⟨w.heap.size+1+1,o,none⟩ (by simp<;>omega) (by simp<;>omega)).trans ((f.frozen (p:=⟨w.heap.size+1+1,o,none⟩) (by simp<;>omega)).trans (f2 o))
 have e1:∀o,l.frozen? ⟨w.heap.size+1,o,none⟩=false:=fun o=>(b.frozen_far ⟨w.heap.size+1,o,none⟩ (by simp<;>omega) (by simp<;>omega)).trans ((f.frozen (p:=⟨w.heap.size+1,o,none⟩) (by simp<;>omega)).trans (f1 o));have I:Below w.heap.size w l:=(t.trans (f.mono t.size)).grown b (by simp;omega) (fun k T=>by cases T;omega);have lx:=u.lt x rfl;simp at H;obtain⟨a0,a1,a2,a3,a4,a5,a6⟩:=y0
 obtain⟨Z,b1,b2,b3,b4,b5,b6⟩:=y1;obtain⟨c0,c1,c2,c3,c4,c5,c6⟩:=y2;clear x0 x1 x2 f1 f2 f E b L Y t;obtain⟨V,m⟩:∃V,V=l.setCell (Ze (w.heap.size+1+1) 1) (Za x a.length j):=⟨_,rfl⟩;have s:Below w.heap.size w V:=by rw[m];exact I.setCell (p:=⟨w.heap.size+1+1,1,none⟩) (by simp<;>omega) _
 have zB:V.heap.size=l.heap.size:=by rw[m];simp
 have N:V.ownsRow (w.heap.size+3) 9 1 (Za x a.length j) a.length (a.map Value.string):=by rw[m];exact ownsRow_setCell_below u (by simp) _
 have r1:Bt V (w.heap.size+1) 0 Zc Zc 0 0 0:=by rw[m];exact⟨by simp[go_sem,Z],by simp[go_sem,b1],by simp[go_sem,b2],by simp[go_sem,b3],by simp[go_sem,b4],by simp[go_sem,b5],by simpa using b6⟩
 have r2:Bt V (w.heap.size+1+1) q (Za x a.length j) (Za h d.length A) ag i r:=by rw[m];exact⟨by simp[go_sem,c0],by simp[go_sem,c1],by simp[go_sem,c2],by simp[go_sem,c3],by simp[go_sem,c4],by simp[go_sem,c5],by simpa using c6⟩
 have k1:∀o,V.frozen? ⟨w.heap.size+1,o,none⟩=false:=fun o=>by rw[m];simp[go_sem,e1]
 have k2:∀o,V.frozen? ⟨w.heap.size+1+1,o,none⟩=false:=fun o=>by rw[m];simp[go_sem,e2]
 have X:=Yx m;clear m;go_wp2_with (first
  |(at_builtin;refine wpList_append_own _ rfl _ _ 22 rfl l.heap.size 9 i0 Zd 1 16 underlying22 hi Q R S rfl (by decide) _ 0 (([]:Zl).map Value.string) rfl ?e0 ⟨h,0,none⟩ d.length A (d.map Value.string) rfl ?e1 ?e2 ?e3 ?e4 ?e5 ?e6 ?_)
  |go_in)
 all_goals try rw[←X.o]
 case e0=>
  have:=World.ownsRow_lit (base:=l.heap.size) (e:=9) (size:=1) V #[] 0 (by omega) (by unfold maxLen;omega) rfl;rw[zB]at this;exact this
 case e1=>simp
 case e2=>exact(hm.below (s.alloc s.size _)).cj
 case e3=>exact No d
 case e4=>unfold maxLen;omega
 case e5=>omega
 case e6=>simp;omega
 intro v2 D z K M;have F:∃y B,v2=Za y d.length B:=by have:=Ke z M;simpa using this
 obtain⟨y,B,rfl⟩:=F;try simp only[Nat.zero_add,List.map_nil,List.nil_append]at z
 have c:(V.alloc (.cells #[] 9)).grownBy D (some l.heap.size):=by simpa [Value.ownBlock]using K
 have f:Below V.heap.size V (V.alloc (.cells #[] 9)):=Zy;have s1:=(r1.below f).grown c (by omega);have s2:=(r2.below f).grown c (by omega);have t2:∀o,D.frozen? ⟨w.heap.size+1+1,o,none⟩=false:=fun o=>(c.frozen_far ⟨w.heap.size+1+1,o,none⟩ (by simp<;>omega) (by simp<;>omega)).trans ((f.frozen (p:=⟨w.heap.size+1+1,o,none⟩) (by simp<;>omega)).trans (k2 o))
 have t1:∀o,D.frozen? ⟨w.heap.size+1,o,none⟩=false:=fun o=>(c.frozen_far ⟨w.heap.size+1,o,none⟩ (by simp<;>omega) (by simp<;>omega)).trans ((f.frozen (p:=⟨w.heap.size+1,o,none⟩) (by simp<;>omega)).trans (k1 o));have J:Below w.heap.size w D:=(s.trans (f.mono s.size)).grown c (by simp;omega) (fun k T=>by cases T;omega);have ly:=z.lt y rfl
 have O:D.ownsRow (w.heap.size+3) 9 1 (Za x a.length j) a.length (a.map Value.string):=(N.alloc _).kept c (.inr (by simp[Value.ownBlock];omega));have P:=z.mono (show w.heap.size+3<=l.heap.size by omega);have zA:x≠y:=by omega
 have G:=Yx (Zn O (Zn P (Zn zA J)));obtain⟨m0,m1,m2,m3,m4,m5,m6⟩:=s1;obtain⟨n0,n1,n2,n3,n4,n5,n6⟩:=s2;clear a0 a1 a2 a3 a4 a5 a6 Z b1 b2 b3 b4 b5 b6 c0 c1 c2 c3 c4 c5 c6 O P z K c f r1 r2 k1 k2 N u s I J X e1 e2 M;go_wp2
 refine bodyPost_ret (v:=.agg (Yk q (some ⟨x,0,none⟩) a.length j (some ⟨y,0,none⟩) d.length B ag i r)) (by simp[results,results70,go_sem,m0,m1,m2,m3,m4,m5]) rfl ⟨x,j,y,B,rfl,?_,?_,G.o.2.2.1,?_⟩
 ·refine World.ownsRow.mono ?_ (show w.heap.size<=w.heap.size+3 by omega)
  iterate 7 (refine ownsRow_setCell_below ?_ (by simp) _)
  exact G.o.1
 ·refine World.ownsRow.mono ?_ (show w.heap.size<=w.heap.size+3 by omega)
  iterate 7 (refine ownsRow_setCell_below ?_ (by simp) _)
  exact G.o.2.1
 ·iterate 7 (refine Below.setCell ?_ (by simp<;>omega) _)
  exact G.o.2.2.2
theorem Lh(m ag j n:Int)(g h A B:Nat)(b a:Zl)(w:Zh)(M:Ad w w.heap.size (some ⟨g,0,none⟩) b)(L:Ad w w.heap.size (some ⟨h,0,none⟩) a)(K:Gj b a):
 Calls prog 109 #[.agg (Yk m (some ⟨g,0,none⟩) b.length A (some ⟨h,0,none⟩) a.length B ag j n)] w fun e G=>∃x k y l,e=.returned (.agg (Yk m (some ⟨x,0,none⟩) b.length k (some ⟨y,0,none⟩) a.length l ag j n))/\
  G.ownsRow w.heap.size 9 1 (Za x b.length k) b.length (b.map Value.string)/\G.ownsRow w.heap.size 9 1 (Za y a.length l) a.length (a.map Value.string)/\x≠y/\Zz w G:=by
 obtain⟨W,i⟩:∃W,W=(w.alloc (.cells (Yk m (some ⟨g,0,none⟩) b.length A (some ⟨h,0,none⟩) a.length B ag j n) 41)).alloc (.cells Yj 41):=⟨_,rfl⟩;have f:Below w.heap.size w W:=by rw[i];exact(Zy).alloc (by simp) _
 have P:Bt W (w.heap.size+1) 0 Zc Zc 0 0 0:=by rw[i];exact⟨by simp[go_sem],by simp[go_sem],by simp[go_sem],by simp[go_sem],by simp[go_sem],by simp[go_sem],by simp⟩
 have O:Bt W w.heap.size m (Za g b.length A) (Za h a.length B) ag j n:=by rw[i];exact⟨by simp[go_sem],by simp[go_sem],by simp[go_sem],by simp[go_sem],by simp[go_sem],by simp[go_sem],by simp<;>omega⟩
 have Y:∀o,W.frozen? ⟨w.heap.size,o,none⟩=false:=fun o=>by rw[i];simp[go_sem]
 have Z:∀o,W.frozen? ⟨w.heap.size+1,o,none⟩=false:=fun o=>by rw[i];simp[go_sem]
 have zA:W.heap.size=w.heap.size+2:=by rw[i];simp
 have J:=Yx i;have r:=Yx O;have C:=Yx P;have I:=Yx M;have H:=Yx L;clear i P M L;obtain⟨R,S,T,U,V,X,a6⟩:=O;go_enter func109,ntmps109;go_upto_region 1 with fail;rw[←J.o];go_region_with (first
  |(go_at_call 134;refine(LX g A b W.drew (Ad.af (w:=w) I.o f.drew) K.q).mono ?_;rintro e N ⟨x,k,rfl,t,D⟩;have c:Below W.heap.size W N:=(Below.refl W.heap.size W).drew.trans D;obtain⟨b0,b1,b2,b3,b4,b5,b6⟩:=Bt.below r.o c;have lx:=t.lt x rfl)
  |(go_at_call 134;refine(LX h B a N (Ad.af (w:=w) H.o (f.trans (c.mono f.size))) K.m).mono ?_;rintro e q ⟨y,l,rfl,u,s⟩;have ly:=u.lt y rfl;have d:Below W.heap.size W q:=c.trans (s.mono c.size);obtain⟨c0,c1,c2,c3,c4,c5,c6⟩:=Bt.below r.o d;obtain⟨d0,d1,d2,d3,d4,d5,d6⟩:=Bt.below C.o d;have e0:∀o,q.frozen? ⟨w.heap.size,o,none⟩=false:=(fun o=>(d.frozen (p:=⟨w.heap.size,o,none⟩) (by simp;omega)).trans (Y o));have e1:∀o,q.frozen? ⟨w.heap.size+1,o,none⟩=false:=(fun o=>(d.frozen (p:=⟨w.heap.size+1,o,none⟩) (by simp;omega)).trans (Z o))))
 all_goals
  have E:q.ownsRow (w.heap.size+2) 9 1 (Za x b.length k) b.length (b.map Value.string):=(CW t s).mono (by simp;omega);have F:q.ownsRow (w.heap.size+2) 9 1 (Za y a.length l) a.length (a.map Value.string):=u.mono (by have:=c.size;omega);have Q:x≠y:=by omega
  have z:=Yx (Zn E (Zn F (Zn Q (f.trans (d.mono f.size)))));clear E F t u D s c d r C I H R S T U V X f J;go_wp2;refine bodyPost_ret (v:=.agg (Yk m (some ⟨x,0,none⟩) b.length k (some ⟨y,0,none⟩) a.length l ag j n)) (by simp[results,results109,go_sem,d0,d1,d2,d3,d4,d5]) rfl ⟨x,k,y,l,rfl,?_,?_,z.o.2.2.1,?_⟩
  ·refine World.ownsRow.mono ?_ (show w.heap.size<=w.heap.size+2 by omega)
   iterate 8 (refine ownsRow_setCell_below ?_ (by simp<;>omega) _)
   exact z.o.1
  ·refine World.ownsRow.mono ?_ (show w.heap.size<=w.heap.size+2 by omega)
   iterate 8 (refine ownsRow_setCell_below ?_ (by simp<;>omega) _)
   exact z.o.2.1
  ·iterate 8 (refine Below.setCell ?_ (by simp) _)
   exact z.o.2.2.2
section
theorem TG(a:Zk)(o:Nat)(b:Zl)(s:Zi)(w:Zh)(B:Nat)(d:Ad w B a b)(F:b.length<=1048576):
 Calls prog 183 #[.slice a b.length o,.string s] w fun e u=>∃r:Int,e=.returned (Zg r)/\(0<=r↔s∈b)/\u=w:=by
 go_enter func183,ntmps183;go_wp2
 go_loop [8] (fun i=>∃k:Nat,k<=b.length/\i=Zg k/\Hid (∀j x,j<k->b[j]?=some x->s≠x)) (fun i=>b.length -(intOf i).toNat)
 case atStart=>exact⟨0,Nat.zero_le _,rfl,fun j x h=>by omega⟩
 case round=>
  obtain⟨k,E,rfl,c⟩:=hrel;by_cases hlt:k<b.length
  ·obtain⟨A,z,q,D,g⟩:=d.at hlt;subst q;have f:Hid (b[k]?=some b[k]):=Zv hlt;have C:=g k _ f;clear g d;generalize b[k]=x at *
   by_cases h:s=x
   ·subst h;go_wp2;go_ret;exact⟨_,rfl,⟨fun _=>Zs f.o,fun _=>by omega⟩,rfl⟩
   ·have v:=BP h;have p:Hid (∀j y,j<k+1->b[j]?=some y->s≠y):=by
     intro j y l m;rcases Nat.lt_or_ge j k with n|n
     ·exact c.o j y n m
     ·obtain rfl:j=k:=by omega
      rw[f.o]at m;cases m;exact h
    clear h c f;go_wp2;exact⟨⟨k+1,by omega,by go_num,p⟩,by simp[intOf];omega⟩
  ·go_wp2;go_ret;refine⟨_,rfl,⟨fun h=>by omega,fun t=> ?_⟩,rfl⟩;obtain⟨j,l⟩:=List.getElem?_of_mem t;exact absurd rfl (c.o j s (by have:=(Zw l).1;omega) l)
open Classical in
theorem Ow(a:Zk)(d:Nat)(b:Zl)(s:Zi)(w:Zh)(B:Nat)(c:Ad w B a b)(j:b.length<=1048576):
 Calls prog 152 #[.slice a b.length d,.string s] w fun e k=>e=.returned (.bool (decide (s∈b)))/\k=w:=by
 go_enter func152,ntmps152;go_wp2_with fail;refine(TG a d b s w B c j).mono ?_;rintro e l ⟨r,rfl,f,rfl⟩;by_cases h:0<=r
 ·have i:decide ((0:Int)<=r)=true:=by simpa using h
  go_wp2;go_ret;exact⟨by rw[decide_eq_true (f.1 h)];rfl,rfl⟩
 ·have i:decide ((0:Int)<=r)=false:=by simpa using h
  have g:¬s∈b:=fun e=>h (f.2 e);go_wp2;go_ret;exact⟨by rw[decide_eq_false g];rfl,rfl⟩
end
section
attribute [local go_sem↓] Go.wp_at_zero Go.wp_at_succ
def TS(W:Zh)(b c:Nat)(wd:Value)(s t r:Value)(w':Zh):Prop:=
 w'.cell? (Ze b 0)=some wd/\w'.cell? (Ze c 0)=some s/\w'.cell? (Ze c 2)=some t/\w'.cell? (Ze c 3)=some r/\Zz W w'
theorem TS.aj{W e d:Zh}{b c:Nat}{g s t r:Value}(h:TS W b c g s t r e)(a:Zz e d)(m:b<W.heap.size)(n:c<W.heap.size):TS W b c g s t r d:=by obtain⟨i,j,k,l,f⟩:=h;have:=f.size;exact⟨(a.cell (p:=⟨b,0,none⟩) (by simp;omega)).trans i,(a.cell (p:=⟨c,0,none⟩) (by simp;omega)).trans j,(a.cell (p:=⟨c,2,none⟩) (by simp;omega)).trans k,(a.cell (p:=⟨c,3,none⟩) (by simp;omega)).trans l,f.trans (a.mono this)⟩
theorem TS.drew{W a:Zh}{b c:Nat}{d s t r:Value}(h:TS W b c d s t r a):TS W b c d s t r a.drew:=⟨h.1,h.2.1,h.2.2.1,h.2.2.2.1,h.2.2.2.2.drew⟩
theorem TS.new{w wr:Zh}{n:Nat}{a:TypeId}{d:Int}(s b t r:Value)(e:wr.cell? (Ze (w.heap.size) 0)=some (Zg d))(f:w.heap.size<wr.heap.size):
 Below wr.heap.size wr ((wr.alloc (.cells #[s,b,t,r] a)).drewN n)/\((wr.alloc (.cells #[s,b,t,r] a)).drewN n).heap.size=wr.heap.size+1/\
  TS ((wr.alloc (.cells #[s,b,t,r] a)).drewN n) w.heap.size wr.heap.size (Zg d) s t r ((wr.alloc (.cells #[s,b,t,r] a)).drewN n):=by
 have c:Below wr.heap.size wr ((wr.alloc (.cells #[s,b,t,r] a)).drewN n):=BV (Zy) _;refine⟨c,by rw[QA];simp,(c.cell (p:=⟨w.heap.size,0,none⟩) f).trans e,?_,?_,?_,Below.refl _ _⟩
 all_goals rw[Qz];simp
end
section
attribute [local go_sem↓] Go.wp_at_zero Go.wp_at_succ
def Ox(w:Zh)(b:Nat)(wd:Int)(m:Nat):Prop:=w.cell? (Ze b 0)=some (Zg wd)/\w.cell? (Ze b 1)=some (.map (some m))/\b<w.heap.size
theorem Ox.new(w:Zh)(a:Int)(m:Nat)(t:TypeId):Ox (w.alloc (.cells #[Zg a,.map (some m)] t)) w.heap.size a m:=⟨by simp,by simp,by simp⟩
theorem Ox.aj{w d:Zh}{b B m:Nat}{e:Int}(h:Ox w b e m)(a:Below B w d)(c:b<B):Ox d b e m:=
 ⟨(a.cell (p:=⟨b,0,none⟩) c).trans h.1,(a.cell (p:=⟨b,1,none⟩) c).trans h.2.1,Zr h.2.2 a.size⟩
end
section
open Classical in
noncomputable def shQ (ph:Int) (ks:List Kd) (qs ms:Zl) (s:Zi):Zl:=if ¬ph=0/\Ax ks s/\¬s∈ms/\¬qs.length=23200 then qs++[s]else qs
theorem WR{d:Int}{b:List Kd}{a c:Zl}{s:Zi}(e:¬d=0)(f:Ax b s)(g:¬s∈c)(h:¬a.length=23200):shQ d b a c s=a++[s]:=if_pos ⟨e,f,g,h⟩
theorem Jr{d:Int}{b:List Kd}{a c:Zl}{s:Zi}(h:d=0∨¬Ax b s∨s∈c∨a.length=23200):shQ d b a c s=a:=if_neg (fun⟨h1,h2,h3,h4⟩=>by rcases h with h|h|h|h;exact h1 h;exact h h2;exact h3 h;exact h4 h)
theorem TI(wd:Int)(m:Nat)(D:List Kd)(s:Zi)(d ag i t:Int)(g h ac O:Nat)(a b:Zl)(w:Zh)(K:VD w wd m D s)(hq:Ad w w.heap.size (some ⟨g,0,none⟩) a)(hm:Ad w w.heap.size (some ⟨h,0,none⟩) b)(hf:Gj a b):
 Calls prog 105 #[.agg #[Zg wd,.map (some m)],.agg (Yk d (some ⟨g,0,none⟩) a.length ac (some ⟨h,0,none⟩) b.length O ag i t),.string s] w fun e w'=>∃x n y f,e=.returned (.agg (Yk d (some ⟨x,0,none⟩) ((shQ d D a b s).length) n (some ⟨y,0,none⟩) b.length f ag i t))/\
  w'.ownsRow w.heap.size 9 1 (Za x (shQ d D a b s).length n) (shQ d D a b s).length ((shQ d D a b s).map Value.string)/\w'.ownsRow w.heap.size 9 1 (Za y b.length f) b.length (b.map Value.string)/\x≠y/\Zz w w':=by
 obtain⟨i0,hi,zN,zO,zP⟩:=info_parts CK;have yC:=hf.q;have zK:=hf.m;obtain⟨W,F⟩:∃W,W=((w.alloc (.cells #[Zg wd,.map (some m)] 154)).alloc (.cells (Yk d (some ⟨g,0,none⟩) a.length ac (some ⟨h,0,none⟩) b.length O ag i t) 41)).alloc (.cells Yj 41):=⟨_,rfl⟩;have I:Below w.heap.size w W:=by rw[F];exact((Zy).alloc (by simp) _).alloc (by simp;omega) _
 have x2:Bt W (w.heap.size+1+1) 0 Zc Zc 0 0 0:=by rw[F];exact⟨by simp[go_sem],by simp[go_sem],by simp[go_sem],by simp[go_sem],by simp[go_sem],by simp[go_sem],by simp⟩
 have x1:Bt W (w.heap.size+1) d (Za g a.length ac) (Za h b.length O) ag i t:=by rw[F];exact⟨by simp[go_sem],by simp[go_sem],by simp[go_sem],by simp[go_sem],by simp[go_sem],by simp[go_sem],by simp<;>omega⟩
 have s0:W.cell? (Ze (w.heap.size) 0)=some (Zg wd):=by rw[F];simp[go_sem]
 have s1:W.cell? (Ze (w.heap.size) 1)=some (.map (some m)):=by rw[F];simp[go_sem]
 have f2:∀o,W.frozen? ⟨w.heap.size+1+1,o,none⟩=false:=fun o=>by rw[F];simp[go_sem]
 have yG:W.heap.size=w.heap.size+3:=by rw[F];simp
 have HW:=Yx F;have HQ:=Yx (Zn hq hm);have J:=Yx K;clear F hq hm K;go_enter func105,ntmps105;go_wp2_with fail;rw[←HW.o];refine(Lh d ag i t g h ac O a b W (Ad.af HQ.o.1 I) (Ad.af HQ.o.2 I) hf).mono ?_;rintro e G ⟨x,n,y,f,rfl,ox,oy,zJ,B⟩;have T:=I.trans (B.mono I.size);have zB:=Yx (x1.below B);have zC:=Yx (x2.below B);have q0:=(B.cell (p:=⟨w.heap.size,0,none⟩) (by simp;omega)).trans s0
 have q1:=(B.cell (p:=⟨w.heap.size,1,none⟩) (by simp;omega)).trans s1;have P:∀o,G.frozen? ⟨w.heap.size+1+1,o,none⟩=false:=fun o=>(B.frozen (p:=⟨w.heap.size+1+1,o,none⟩) (by simp<;>omega)).trans (f2 o);have lx:=ox.lt x rfl;have ly:=oy.lt y rfl;have zX:=B.size;obtain⟨V,M⟩:∃V,V=G.alloc (.cells (Yk d (some ⟨x,0,none⟩) a.length n (some ⟨y,0,none⟩) b.length f ag i t) 41):=⟨_,rfl⟩
 have r:Below G.heap.size G V:=by rw[M];exact Zy
 have A:Hid (V.ownsRow (w.heap.size+3) 9 1 (Za x a.length n) a.length (a.map Value.string)/\V.ownsRow (w.heap.size+3) 9 1 (Za y b.length f) b.length (b.map Value.string)/\x≠y/\Zz w V):=⟨(CW ox r).mono (by omega),(CW oy r).mono (by omega),zJ,T.trans (r.mono T.size)⟩;have H7:Hid (Bt V G.heap.size d (Za x a.length n) (Za y b.length f) ag i t):=by show Bt V G.heap.size d (Za x a.length n) (Za y b.length f) ag i t;rw[M];exact Bt.new _ _ _ _ _ _ _ _
 have Q:=Yx (Bt.below zB.o r);have R:=Yx (Bt.below zC.o r);have zT:=(r.cell (p:=⟨w.heap.size,0,none⟩) (by simp;omega)).trans q0;have zU:=(r.cell (p:=⟨w.heap.size,1,none⟩) (by simp;omega)).trans q1;have fv:∀o,V.frozen? ⟨w.heap.size+1+1,o,none⟩=false:=fun o=>(r.frozen (p:=⟨w.heap.size+1+1,o,none⟩) (by simp<;>omega)).trans (P o)
 have f7:∀o,V.frozen? ⟨G.heap.size,o,none⟩=false:=fun o=>by rw[M];simp[go_sem]
 have yF:V.heap.size=G.heap.size+1:=by rw[M];simp
 go_upto_region 2 with fail;rw[←M];clear M r ox oy B x1 x2 s0 s1 f2 HW zB zC q0 q1 P T;generalize G.heap.size=b7 at *
 obtain⟨a0,a1,a2,a3,a4,a5,a6⟩:=Q.o;obtain⟨c0,c1,c2,c3,c4,c5,c6⟩:=H7.o;obtain⟨d0,d1,d2,d3,d4,d5,d6⟩:=R.o;have yB:w.heap.size+3<=b7:=by omega
 by_cases p0:d=0
 ·have HN:Hid (shQ d D a b s=a):=Jr (.inl p0);subst p0;have c:=Yx A.o;go_wp2;refine bodyPost_ret (v:=.agg (Yk 0 (some ⟨x,0,none⟩) a.length n (some ⟨y,0,none⟩) b.length f ag i t)) (by simp[results,results105,go_sem,d0,d1,d2,d3,d4,d5]) rfl ?_;rw[HN.o];refine⟨x,n,y,f,rfl,?_,?_,c.o.2.2.1,?_⟩
  ·refine World.ownsRow.mono ?_ (show w.heap.size<=w.heap.size+3 by omega)
   iterate 6 (refine ownsRow_setCell_below ?_ (by simp) _)
   exact c.o.1
  ·refine World.ownsRow.mono ?_ (show w.heap.size<=w.heap.size+3 by omega)
   iterate 6 (refine ownsRow_setCell_below ?_ (by simp) _)
   exact c.o.2.1
  ·iterate 6 (refine Below.setCell ?_ (by simp<;>omega) _)
   exact c.o.2.2.2
 have yH:(d==0)=false:=by simpa using p0
 by_cases p1:a.length=23200
 ·have HN:Hid (shQ d D a b s=a):=Jr (.inr (.inr (.inr p1)));have zS:((a.length:Int)==23200)=true:=by simp;omega
  clear p1;have c:=Yx A.o;go_wp2;refine bodyPost_ret (v:=.agg (Yk d (some ⟨x,0,none⟩) a.length n (some ⟨y,0,none⟩) b.length f ag i t)) (by simp[results,results105,go_sem,d0,d1,d2,d3,d4,d5]) rfl ?_;rw[HN.o];refine⟨x,n,y,f,rfl,?_,?_,c.o.2.2.1,?_⟩
  ·refine World.ownsRow.mono ?_ (show w.heap.size<=w.heap.size+3 by omega)
   iterate 6 (refine ownsRow_setCell_below ?_ (by simp) _)
   exact c.o.1
  ·refine World.ownsRow.mono ?_ (show w.heap.size<=w.heap.size+3 by omega)
   iterate 6 (refine ownsRow_setCell_below ?_ (by simp) _)
   exact c.o.2.1
  ·iterate 6 (refine Below.setCell ?_ (by simp<;>omega) _)
   exact c.o.2.2.2
 have zS:((a.length:Int)==23200)=false:=beq_eq_false_iff_ne.2 (by omega);obtain⟨ok,C,E⟩:=J.o;have L:=Yx (E V A.o.2.2.2);clear E J;go_wp2_with fail;refine Calls.mono L.o ?_;rintro e z ⟨rfl,q⟩;have yE:=q.size
 have c:Hid (z.ownsRow (w.heap.size+3) 9 1 (Za x a.length n) a.length (a.map Value.string)/\z.ownsRow (w.heap.size+3) 9 1 (Za y b.length f) b.length (b.map Value.string)/\x≠y/\Zz w z):=⟨CW A.o.1 q,CW A.o.2.1 q,zJ,A.o.2.2.2.trans (q.mono A.o.2.2.2.size)⟩;have H8:=Yx (Bt.below H7.o q);have H2:=Yx (Bt.below R.o q);have zE:=Yx (Bt.below Q.o q)
 have P:∀o,z.frozen? ⟨w.heap.size+1+1,o,none⟩=false:=fun o=>(q.frozen (p:=⟨w.heap.size+1+1,o,none⟩) (by simp<;>omega)).trans (fv o);have f8:∀o,z.frozen? ⟨b7,o,none⟩=false:=fun o=>(q.frozen (p:=⟨b7,o,none⟩) (by simp<;>omega)).trans (f7 o);have X:=Ad.af (w:=w) HQ.o.2 c.o.2.2.2;clear a0 a1 a2 a3 a4 a5 a6 c0 c1 c2 c3 c4 c5 c6 d0 d1 d2 d3 d4 d5 d6 q H7 A R Q L zT zU fv f7
 obtain⟨a0,a1,a2,a3,a4,a5,a6⟩:=zE.o;obtain⟨c0,c1,c2,c3,c4,c5,c6⟩:=H8.o;obtain⟨d0,d1,d2,d3,d4,d5,d6⟩:=H2.o;cases ok with
 |false=>
  have HN:Hid (shQ d D a b s=a):=Jr (.inr (.inl (fun hh=>by have:=C.2 hh;cases this)));clear C X;go_wp2;refine bodyPost_ret (v:=.agg (Yk d (some ⟨x,0,none⟩) a.length n (some ⟨y,0,none⟩) b.length f ag i t)) (by simp[results,results105,go_sem,d0,d1,d2,d3,d4,d5]) rfl ?_;rw[HN.o];refine⟨x,n,y,f,rfl,?_,?_,c.o.2.2.1,?_⟩
  ·refine World.ownsRow.mono ?_ (show w.heap.size<=w.heap.size+3 by omega)
   iterate 6 (refine ownsRow_setCell_below ?_ (by simp) _)
   exact c.o.1
  ·refine World.ownsRow.mono ?_ (show w.heap.size<=w.heap.size+3 by omega)
   iterate 6 (refine ownsRow_setCell_below ?_ (by simp) _)
   exact c.o.2.1
  ·iterate 6 (refine Below.setCell ?_ (by simp<;>omega) _)
   exact c.o.2.2.2
 |true=>
  have Y:=C.1 rfl;clear C;have L:=Yx (Ow (some ⟨h,0,none⟩) O b s z z.heap.size X zK);clear X;go_wp2_with fail;refine Calls.mono L.o ?_;rintro e w9 ⟨rfl,zI⟩;rw[zI];clear zI;by_cases hin:s∈b
  ·have HN:Hid (shQ d D a b s=a):=Jr (.inr (.inr (.inl hin)));rw[@decide_eq_true _ (Classical.propDecidable _) hin];clear L Y;go_wp2;refine bodyPost_ret (v:=.agg (Yk d (some ⟨x,0,none⟩) a.length n (some ⟨y,0,none⟩) b.length f ag i t)) (by simp[results,results105,go_sem,d0,d1,d2,d3,d4,d5]) rfl ?_;rw[HN.o];refine⟨x,n,y,f,rfl,?_,?_,c.o.2.2.1,?_⟩
   ·refine World.ownsRow.mono ?_ (show w.heap.size<=w.heap.size+3 by omega)
    iterate 6 (refine ownsRow_setCell_below ?_ (by simp) _)
    exact c.o.1
   ·refine World.ownsRow.mono ?_ (show w.heap.size<=w.heap.size+3 by omega)
    iterate 6 (refine ownsRow_setCell_below ?_ (by simp) _)
    exact c.o.2.1
   ·iterate 6 (refine Below.setCell ?_ (by simp<;>omega) _)
    exact c.o.2.2.2
  ·have HN:Hid (shQ d D a b s=a++[s]):=WR p0 Y hin p1;rw[@decide_eq_false _ (Classical.propDecidable _) hin];clear L Y hin zE HQ I a0 a1 a2 a3 a4 a5 a6;go_wp2_with (first
    |(at_builtin;refine wpList_append_lies _ rfl _ _ 22 rfl (w.heap.size+3) 9 i0 Zd 1 16 underlying22 hi zN zO zP rfl (by decide) _ a.length (a.map Value.string) rfl ?d0 ⟨z.heap.size,0,none⟩ 1 1 [.string s] rfl rfl ?d1 ?d2 (by decide) ?d3 ?d4 ?d5 _ rfl ?_)
    |go_in)
   case d0=>exact c.o.1.alloc _
   case d1=>exact cell_one_new z (.string s) 9
   case d2=>intro u hu;simp at hu;subst hu;rfl
   case d3=>unfold maxLen;omega
   case d4=>omega
   case d5=>simp;omega
   intro k S N zG U zA zW;have H:Below z.heap.size z (z.alloc (.cells #[.string s] 9)):=Zy;have zR:=U.size;simp[Value.ownBlock]at zR zA;have l:(z.alloc (.cells #[.string s] 9)).grownBy N (some x):=by simpa [Value.ownBlock]using U
   have r7:=(Bt.below H8.o H).grown l (by omega);have r2:=(Bt.below H2.o H).grown l (by omega);have zY:∀o,N.frozen? ⟨b7,o,none⟩=false:=fun o=>(l.frozen_far ⟨b7,o,none⟩ (by simp<;>omega) (by simp<;>omega)).trans ((H.frozen (p:=⟨b7,o,none⟩) (by simp<;>omega)).trans (f8 o))
   have zZ:∀o,N.frozen? ⟨w.heap.size+1+1,o,none⟩=false:=fun o=>(l.frozen_far ⟨w.heap.size+1+1,o,none⟩ (by simp<;>omega) (by simp<;>omega)).trans ((H.frozen (p:=⟨w.heap.size+1+1,o,none⟩) (by simp<;>omega)).trans (P o));have zH:N.ownsRow (w.heap.size+3) 9 1 (Za y b.length f) b.length (b.map Value.string):=(c.o.2.1.alloc _).kept l (.inr (by simp[Value.ownBlock];omega))
   have zF:Below w.heap.size w N:=(c.o.2.2.2.trans (H.mono c.o.2.2.2.size)).grown l (by simp;omega) (fun j hj=>by cases hj;omega);have zM:k≠y:=by omega
   have yD:¬k=b7:=by omega
   have yA:¬b7=w.heap.size+1+1:=by omega
   have zV:¬w.heap.size+1+1=b7:=by omega
   have C:N.ownsRow (w.heap.size+3) 9 1 (Za k (a.length+1) S) (a.length+1) ((a++[s]).map Value.string):=by simpa using zG
   have Z:=Yx (Zn C (Zn zH (Zn zM zF)));obtain⟨c0,c1,c2,c3,c4,c5,c6⟩:=r7;obtain⟨d0,d1,d2,d3,d4,d5,d6⟩:=r2;clear zG C zH U l zF H f8 P H8 H2 c;go_wp2;refine bodyPost_ret (v:=.agg (Yk d (some ⟨k,0,none⟩) (a.length+1) S (some ⟨y,0,none⟩) b.length f ag i t)) (by simp[results,results105,go_sem,d0,d1,d2,d3,d4,d5]) rfl ?_;rw[HN.o];refine⟨k,S,y,f,by simp,?_,?_,Z.o.2.2.1,?_⟩
   ·rw[show(a++[s]).length=a.length+1 by simp];refine World.ownsRow.mono ?_ (show w.heap.size<=w.heap.size+3 by omega)
    iterate 6 (refine ownsRow_setCell_below ?_ (by simp) _)
    refine ownsRow_setCell_other ?_ (by simp[Value.ownBlock];omega) _;exact Z.o.1
   ·refine World.ownsRow.mono ?_ (show w.heap.size<=w.heap.size+3 by omega)
    iterate 6 (refine ownsRow_setCell_below ?_ (by simp) _)
    refine ownsRow_setCell_other ?_ (by simp[Value.ownBlock];omega) _;exact Z.o.2.1
   ·iterate 7 (refine Below.setCell ?_ (by simp<;>omega) _)
    exact Z.o.2.2.2
end
section
attribute [local go_sem↓] Go.wp_at_zero Go.wp_at_succ
def seen(ks:List Kd)(k:Nat)(n:Int):Bool:=(ks.take k).any (fun x=>decide (x.born=n))
def flags(ks:List Kd)(k:Nat):Zj:=(List.range 601).map (fun(n:Nat)=>Value.bool (seen ks k n))
def later(ks:List Kd)(k:Nat):List Int:=((ks.take k).map (·.born)).filter (fun b=>decide (600<b))
structure YB (w wr:Zh) (ks:List Kd) (k:Nat) (v:Value):Prop where
 cf:Below w.heap.size w wr
 fl:wr.ownsRow (w.heap.size+1) 4 1 (.slice (some ⟨w.heap.size+1,0,none⟩) 601 601) 601 (flags ks k)
 la:wr.ownsRow (w.heap.size+2) 3 1 v (later ks k).length ((later ks k).map (Value.int .i64))
theorem YB.aj{w wr a:Zh}{c:List Kd}{k:Nat}{v:Value}(h:YB w wr c k v)(b:Zz wr a):YB w a c k v:=
 ⟨h.cf.trans (b.mono h.cf.size),h.fl.kept (Au none b) (.inr (by simp[Value.ownBlock])),h.la.kept (Au none b) (by cases v.ownBlock<;>simp)⟩
end
section
attribute [local go_sem↓] Go.wp_at_zero Go.wp_at_succ
end
section
def ZK(wd:Int)(k:Kd):Int:=1+k.refs.length *wd+k.text.size
def ZL(wd:Int)(ks:List Kd):Int:=(ks.map (ZK wd)).sum
open Classical in
end
theorem Na(a b:Zk)(c d:Nat)(f h:Zl)(w:Zh)(J:Ad w w.heap.size a f)(I:Ad w w.heap.size b h)(R:f.length<=1048576)(N:h.length<=1048576):
 Calls prog 107 #[.agg #[.slice a f.length c,.slice b h.length d]] w fun e D=>∃x k y l,e=.returned (.agg #[.slice x f.length k,.slice y h.length l])/\
  D.ownsRow w.heap.size 9 1 (.slice x f.length k) f.length (f.map Value.string)/\D.ownsRow w.heap.size 9 1 (.slice y h.length l) h.length (h.map Value.string)/\(∀g,(Value.slice x f.length k).ownBlock=some g->(Value.slice y h.length l).ownBlock≠some g)/\Zz w D:=by
 obtain⟨W,m⟩:∃W,W=(w.alloc (.cells #[.slice a f.length c,.slice b h.length d] 35)).alloc (.cells #[Zc,Zc] 35):=⟨_,rfl⟩;have j:=(AW m).1;have L:=(AW m).2.2.1;have M:Aa W (w.heap.size+1) [Zc,Zc]:=by have t:=Aa.new (w.alloc (.cells #[.slice a f.length c,.slice b h.length d] 35)) [Zc,Zc] 35;rw[World.size_alloc]at t;rw[m];exact t
 have S:=(AW m).2.1;have H:=Yx m;have u:Hid (Aa W _ _):=(AW m).2.2.1;have o:Hid (Aa W (w.heap.size+1) [Zc,Zc]):=M;have G:Hid (Ad w w.heap.size a f):=J;have F:Hid (Ad w w.heap.size b h):=I;obtain⟨O,P⟩:=Aa.c2 L 0 1;clear m L M J I;go_enter func107,ntmps107;go_upto_region 1 with fail;rw[←H.o];clear H;go_region_with (first
  |(go_at_call 134;refine(El a c f W.drew (Ad.af (w:=w) G.o j.drew) R).mono ?_;rintro e K ⟨x,k,rfl,q,z⟩;have i:Below W.heap.size W K:=(Below.refl W.heap.size W).drew.trans z;obtain⟨b1,_⟩:=Aa.below u.o i 1 _ rfl)
  |(go_at_call 134;refine(El b d h K (Ad.af (w:=w) F.o (j.trans (i.mono j.size))) N).mono ?_;rintro e E ⟨y,l,rfl,r,p⟩;have n:Below W.heap.size W E:=i.trans (p.mono i.size);obtain⟨d0,e0⟩:=Aa.below o.o n 0 _ rfl;obtain⟨d1,e1⟩:=Aa.below o.o n 1 _ rfl))
 all_goals
  have A:E.ownsRow (w.heap.size+2) 9 1 (.slice x f.length k) f.length (f.map Value.string):=(CW q p).mono (by simp;omega);have B:E.ownsRow (w.heap.size+2) 9 1 (.slice y h.length l) h.length (h.map Value.string):=r.mono (by have:=i.size;omega);have C:∀g,(Value.slice x f.length k).ownBlock=some g->(Value.slice y h.length l).ownBlock≠some g:=fun g t Q=>by have T:=(Ac q t).2;have U:=(Ac r Q).1;omega
  have s:=Yx (Zn A (Zn B (Zn C (j.trans (n.mono j.size)))));clear A B q r z p i n u o G F O P j C;go_wp2;refine bodyPost_ret (v:=.agg #[.slice x f.length k,.slice y h.length l]) (by simp[results,results107,go_sem,d0,d1]) rfl ⟨x,k,y,l,rfl,?_,?_,s.o.2.2.1,?_⟩
  ·refine World.ownsRow.mono ?_ (show w.heap.size<=w.heap.size+2 by omega)
   iterate 2 (refine ownsRow_setCell_below ?_ (by simp<;>omega) _)
   exact s.o.1
  ·refine World.ownsRow.mono ?_ (show w.heap.size<=w.heap.size+2 by omega)
   iterate 2 (refine ownsRow_setCell_below ?_ (by simp<;>omega) _)
   exact s.o.2.1
  ·iterate 2 (refine Below.setCell ?_ (by simp) _)
   exact s.o.2.2.2
end Go.Proofs.YtlhhpofjkgmbeaaGreatDoor
