import Derived.Test.YtoglnpagihdhpaaGreatDoorX17
import Derived.Test.YtoglnpagihdhpaaGreatDoorX25
set_option maxRecDepth 100000
set_option maxHeartbeats 16000000
namespace Go.Proofs.YtoglnpagihdhpaaGreatDoor
open ChangeShapes WideShapes ChangeAt RowKit _root_.Go.Proofs.Tryz
variable{w d X:Zh}{b n g base N B free:Nat}{T P L S U Q M:Value}{e f a rs:Zj}{j l q:List Pd}{k o:List Ld}{V:List Nat}{v:Vd}{c i:Int}{u:UR}{s:Zi}{r:Rs}{A:Addr}
theorem AY.cz{j:List Kd}(h:AY w b T P L e j l k):∀g∈Ci T P L e,g<w.heap.size:=by
 intro g a;unfold Ci at a;simp only[List.mem_append,Option.mem_toList,List.mem_filterMap]at a;rcases a with a|a|a|⟨r,f,a⟩
 .exact(Ac h.ak a).2
 .exact(Ac h.pins a).2
 .exact(Ac h.aq a).2
 .obtain⟨i,c⟩:=List.getElem?_of_mem f;have d:=(Zw c).1;rw[h.len]at d;exact(Ac (h.B i _ r (Zv d) c) a).2
theorem AY.apart{l:Zh}{d:Nat}{n:List Kd}(h:AY w d T P L f n q o)(u:Tn V w l)(s:∀b∈V,b∉Ci T P L f):AY l d T P L f n q o:=by
 have c:∀g,g∈Ci T P L f->g<w.heap.size->l.heap[g]?=w.heap[g]?:=fun g a t=>u.block g t (fun e=>s g e a)
 refine⟨h.len,Ak h.ak (fun g a=>c g (by unfold Ci;simp[a]) (Ac h.ak a).2),fun i k r m j=>Ak (h.B i k r m j) (fun g a=>c g (by unfold Ci;simp only[List.mem_append,List.mem_filterMap];exact .inr (.inr (.inr ⟨r,Zs j,a⟩))) (Ac (h.B i k r m j) a).2),Ak h.pins (fun g a=>c g (by unfold Ci;simp[a]) (Ac h.pins a).2),Ak h.aq (fun g a=>c g (by unfold Ci;simp[a]) (Ac h.aq a).2),h.nd⟩
theorem AY.rows{b:List Kd}{v:List Pd}{t:List Ld}(h:AY w n T P L a b v t):∃m x l u f s,T=.slice m b.length x/\P=.slice l v.length u/\L=.slice f t.length s/\Bt w w.heap.size m l f b v t:=by
 obtain⟨m,x,rfl⟩:=As h.ak;obtain⟨l,u,rfl⟩:=As h.pins;obtain⟨f,s,rfl⟩:=As h.aq;refine⟨m,x,l,u,f,s,rfl,rfl,rfl,⟨?_,AO.own h.pins,AM.own h.aq⟩⟩;rcases h.ak.2 with⟨_,r⟩|⟨g,cap,H,e,K,C,_⟩
 .exact .inl (List.length_eq_zero_iff.1 r)
 .cases e;refine .inr ⟨g,0,rfl,(Array.getElem?_eq_some_iff.1 C).1,fun i k q=> ?_⟩;have M:=(Zw q).1;have hlen:=h.len;have y:a[i]?=some a[i]:=Zv Yv;have E:(b.zip a)[i]?=some (k,a[i]):=List.getElem?_zip_eq_some.2 ⟨q,y⟩;have I:(b.zip a).length=b.length:=by rw[List.length_zip];omega
  have c:∀j,j<4->w.cell? (Zd g (i *4+j))=(kC (k,a[i]))[j]?:=fun j D=>(h.ak.cellAt (i *4+j) Yv).trans (Cz Ko E D);have d:=h.B i k _ q y;obtain⟨F,G,o⟩:=As d;rw[Nat.zero_add];refine⟨by simpa [kC]using c 0 Yq,by simpa [kC]using c 1 Yq,by simpa [kC]using c 2 Yq,F,G,?_,?_⟩
  .have:=c 3 Yq;rw[<-o];simpa [kC]using this
  .rw[o]at d;rcases d.2 with⟨_,r⟩|⟨J,z,A,B,_⟩
   .exact .inl (List.eq_nil_of_length_eq_zero r)
   .cases B;exact Ad.own d
theorem Lo{a:List Kd}(h:∀k∈a,k.B.length<=30):FB a<=30 *a.length:=by
 induction a with
 |nil=>simp[FB]
 |cons x xs ih=>rw[Si];have c:=h x Yu;have d:=ih (fun k b=>h k (by simp[b]));simp only[List.length_cons];omega
theorem Jw.ib{lo p l:Nat}{b:List Kd}{f:List Ld}(h:Jw w lo g p l b j f):Ev w ⟨g,0,none⟩ b:=by obtain⟨m,e,d,_⟩:=h.k;intro i x a;have k:=(Zw a).1;obtain⟨_,_,_,q,c,_⟩:=d i x a;refine⟨⟨q,0,none⟩,x.B.length,?_⟩;rw[<-c,Nat.zero_add];exact e.cellAt (i *4+3) Yv
theorem AY.same{c:Zh}{m:Zj}{f:List Kd}{j:List Ld}(h:AY w base T P L m f l j)(s:∀b,base<=b->b<w.heap.size->c.heap[b]?=w.heap[b]?):AY c base T P L m f l j:=by have a:∀{e:TypeId} {size:Nat} {v:Value} {n:Nat} {xs:Zj},w.ownsRow base e size v n xs->c.ownsRow base e size v n xs:=fun h=>Ak h (fun g d=>s g (Ac h d).1 (Ac h d).2);exact⟨h.len,a h.ak,fun i k r o q=>a (h.B i k r o q),a h.pins,a h.aq,h.nd⟩
theorem Ev.below{c:Zh}{b:List Kd}(h:Ev w ⟨g,0,none⟩ b)(e:Zz w c):Ev c ⟨g,0,none⟩ b:=by intro i k f;obtain⟨d,j,a⟩:=h i k f;exact⟨d,j,(e.cell (p:=⟨g,0+i *4+3,none⟩) (World.block_lt_of_cell? w _ a)).trans a⟩
def CV(S U T P L Q M:Value)(rs:Zj):List Nat:=((Ai S).toList++(Ai U).toList)++(Ci T P L rs++((Ai Q).toList++(Ai M).toList))
structure AD (w:Zh) (base:Nat) (S U T P L Q M:Value) (rs:Zj) (v:Vd):Prop where
 s:Aj w base S v.ss
 u:Aj w base U v.D
 st:AY w base T P L rs v.A v.ps v.ls
 q:Aj w base Q v.G
 m:Aj w base M v.ms
 nd:(CV S U T P L Q M rs).Nodup
theorem AD.lo{c:Zj}(h:AD w b S U T P L Q M c v):∀g∈CV S U T P L Q M c,b<=g:=by
 intro g a;unfold CV at a;simp only[List.mem_append,Option.mem_toList]at a;rcases a with(a|a)|a|a|a
 .exact(h.s.Z a).1
 .exact(h.u.Z a).1
 .exact h.st.lo g a
 .exact(h.q.Z a).1
 .exact(h.m.Z a).1
theorem AD.cz{c:Zj}(h:AD w b S U T P L Q M c v):∀g∈CV S U T P L Q M c,g<w.heap.size:=by
 intro g a;unfold CV at a;simp only[List.mem_append,Option.mem_toList]at a;rcases a with(a|a)|a|a|a
 .exact(h.s.Z a).2
 .exact(h.u.Z a).2
 .exact h.st.cz g a
 .exact(h.q.Z a).2
 .exact(h.m.Z a).2
theorem AD.stays{j:Zh}{c:Nat}(h:AD w c S U T P L Q M f v)(d:Tn V w j)(k:∀b∈V,b∉CV S U T P L Q M f):AD j c S U T P L Q M f v:=by have e:∀b∈CV S U T P L Q M f,b∉V:=fun b i l=>k b l i;unfold CV at e;simp only[List.mem_append,Option.mem_toList]at e;exact⟨h.s.K d (fun g a=>e g (.inl (.inl a))),h.u.K d (fun g a=>e g (.inl (.inr a))),h.st.apart d (fun b i m=>e b (.inr (.inl m)) i),h.q.K d (fun g a=>e g (.inr (.inr (.inl a)))),h.m.K d (fun g a=>e g (.inr (.inr (.inr a)))),h.nd⟩
theorem AD.below{a:Zh}(h:AD w base S U T P L Q M rs v)(b:Zz w a):AD a base S U T P L Q M rs v:=
 h.stays (V:=[]) (Tn.of b) Yu
theorem AD.mono{base':Nat}(h:AD w base S U T P L Q M rs v)(a:base'<=base):AD w base' S U T P L Q M rs v:=
 ⟨h.s.mono a,h.u.mono a,h.st.mono a,h.q.mono a,h.m.mono a,h.nd⟩
theorem AD.same{e:Zh}(h:AD w base S U T P L Q M f v)(d:w.heap.size<=e.heap.size)(c:∀b,base<=b->b<w.heap.size->e.heap[b]?=w.heap[b]?):AD e base S U T P L Q M f v:=
 ⟨h.s.stays d (fun g a=>c g (h.s.Z a).1 (h.s.Z a).2),h.u.stays d (fun g a=>c g (h.u.Z a).1 (h.u.Z a).2),h.st.same c,h.q.stays d (fun g a=>c g (h.q.Z a).1 (h.q.Z a).2),h.m.stays d (fun g a=>c g (h.m.Z a).1 (h.m.Z a).2),h.nd⟩
theorem AD.of{c n1 n2:Nat}{i:Zj}(A:Aj w c S v.ss)(C:Aj w c U v.D)(n:∀g,Ai S=some g->Ai U≠some g)(t:∀g,Ai S=some g\/Ai U=some g->g<n1)(h:AY w n1 T P L i v.A v.ps v.ls)(d:c<=n1)(x:∀g∈Ci T P L i,g<n2)(z:Aj w c Q v.G)(y:Aj w c M v.ms)(j:∀g,Ai Q=some g\/Ai M=some g->n2<=g)(E:n1<=n2)(l:∀g,Ai Q=some g->Ai M≠some g):AD w c S U T P L Q M i v:=by
 refine⟨A,C,h.mono d,z,y,?_⟩;have k:=h.nd;rw[FY]at k;have r:=h.lo;unfold CV;generalize Ci T P L i=B at *
 generalize Ai S=s at *
 generalize Ai U=u at *
 generalize Ai Q=q at *
 generalize Ai M=m at *
 have one:∀o:Option Nat,o.toList.Nodup:=fun o=>by cases o<;>simp
 simp only[List.nodup_append,List.mem_append,Option.mem_toList];refine⟨⟨one _,one _,fun a f b d e=>n a f (e▸d)⟩,⟨k,⟨one _,one _,fun a f b d e=>l a f (e▸d)⟩,fun a f b d e=> ?_⟩,fun a f b d e=> ?_⟩
 .have D:=x a f;have F:=j b d;omega
 .have D:=t a f;rcases d with d|d
  .have:=r b d;omega
  .have:=j b d;omega
def ZX(v:Vd):Nat:=v.ss.length+v.D.length+ZR v.A v.ps v.ls+v.G.length+v.ms.length
def Bm(v:Vd)(S U T P L Q M:Value):Zj:=[Zg v.wd,Zg v.lim,S,U,Zg v.S,Zg v.E,Zg v.F,Zg v.C,T,P,L,Zg v.L,Q,M,Zg v.Q,Zg v.P,Zg v.ro]
def VRa(v:Vd)(L:Nat)(X:Zh)(cs:Zj):Prop:=
 ∃a:Va,cs=Bm v (.slice a.X v.ss.length a.sc) (.slice a.V v.D.length a.W) (.slice a.Y v.A.length a.j) (.slice a.O v.ps.length a.U) (.slice a.M v.ls.length a.T) (.slice a.g v.G.length a.qc) (.slice a.i v.ms.length a.mc)/\CQ X L a v
def ZY(v u:Vd)(lo N:Nat)(X:Zh)(cs:Zj):Prop:=
 (N<=X.heap.size/\lo<=X.heap.size)/\∃S U T P L Q M rs,cs=Bm v S U T P L Q M/\AD X lo S U T P L Q M rs u/\∀g∈CV S U T P L Q M rs,g<N
theorem AD.iz{a:Nat}{q:Zj}(h:AD X a S U T P L Q M q v):VRa v X.heap.size X (Bm v S U T P L Q M):=by obtain⟨r,s,rfl,b⟩:=h.s.row;obtain⟨w,x,rfl,c⟩:=h.u.row;obtain⟨t,u,l,m,g,i,rfl,rfl,rfl,d⟩:=h.st.rows;obtain⟨n,o,rfl,e⟩:=h.q.row;obtain⟨j,k,rfl,f⟩:=h.m.row;exact⟨⟨r,s,w,x,t,u,l,m,g,i,n,o,j,k⟩,rfl,⟨b,c,d,e,f⟩⟩
theorem AY.at{w':Zh}{c:Zj}{e:List Kd}{f:List Ld}(h:AY w base T P L c e j f)(b:∀g∈Ci T P L c,w'.heap[g]?=w.heap[g]?):AY w' base T P L c e j f:=
 ⟨h.len,Ak h.ak (fun g a=>b g (by unfold Ci;simp[a])),fun i k r l d=>Ak (h.B i k r l d) (fun g a=>b g (by unfold Ci;simp only[List.mem_append,List.mem_filterMap];exact .inr (.inr (.inr ⟨r,Zs d,a⟩)))),Ak h.pins (fun g a=>b g (by unfold Ci;simp[a])),Ak h.aq (fun g a=>b g (by unfold Ci;simp[a])),h.nd⟩
theorem AD.ag{c:Zh}{lo:Nat}{d:Zj}{u:Vd}(b:AD X lo S U T P L Q M d u)(h:∀g∈CV S U T P L Q M d,g<N)(f:X.heap.size<=c.heap.size)(j:∀q,lo<=q->q<N->c.heap[q]?=X.heap[q]?):AD c lo S U T P L Q M d u:=by
 have e:∀g∈CV S U T P L Q M d,c.heap[g]?=X.heap[g]?:=fun g a=>j g (b.lo g a) (h g a);have i:∀g∈Ci T P L d,c.heap[g]?=X.heap[g]?:=fun g a=>e g (by unfold CV;simp only[List.mem_append];exact .inr (.inl a));unfold CV at e;simp only[List.mem_append,Option.mem_toList]at e
 exact⟨b.s.stays f (fun g a=>e g (.inl (.inl a))),b.u.stays f (fun g a=>e g (.inl (.inr a))),b.st.at i,b.q.stays f (fun g a=>e g (.inr (.inr (.inl a)))),b.m.stays f (fun g a=>e g (.inr (.inr (.inr a)))),b.nd⟩
theorem ZY.ag{u:Vd}{lo:Nat}{a:Zh}{c:Zj}(h:ZY v u lo N X c)(b:X.heap.size<=a.heap.size)(g:∀q,lo<=q->q<N->a.heap[q]?=X.heap[q]?):ZY v u lo N a c:=by obtain⟨e,S,U,T,P,L,Q,M,i,rfl,f,d⟩:=h;exact⟨⟨Zm e.1 b,Zm e.2 b⟩,S,U,T,P,L,Q,M,i,rfl,f.ag d b g,d⟩
theorem Ge.jc(h:Ge v):1000+ZX v<=90000000:=by unfold ZX ZR;have:=h.s;have:=h.t;have:=h.st.k;have:=h.st.p;have:=h.st.l;have:=h.r.q;have:=h.r.m;have:=h.rn;omega
theorem Ww{d e f g i j k l m n a c:Value}(h:Aa w b [d,e,f,g,i,j,k,l,m,n,a,c]):(w.cell? (Zd b 0)=some d/\w.frozen? ⟨b,0,none⟩=false)/\(w.cell? (Zd b 1)=some e/\w.frozen? ⟨b,1,none⟩=false)/\(w.cell? (Zd b 2)=some f/\w.frozen? ⟨b,2,none⟩=false)/\(w.cell? (Zd b 3)=some g/\w.frozen? ⟨b,3,none⟩=false)/\(w.cell? (Zd b 4)=some i/\w.frozen? ⟨b,4,none⟩=false)/\(w.cell? (Zd b 5)=some j/\w.frozen? ⟨b,5,none⟩=false)/\(w.cell? (Zd b 6)=some k/\w.frozen? ⟨b,6,none⟩=false)/\(w.cell? (Zd b 7)=some l/\w.frozen? ⟨b,7,none⟩=false)/\(w.cell? (Zd b 8)=some m/\w.frozen? ⟨b,8,none⟩=false)/\(w.cell? (Zd b 9)=some n/\w.frozen? ⟨b,9,none⟩=false)/\(w.cell? (Zd b 10)=some a/\w.frozen? ⟨b,10,none⟩=false)/\w.cell? (Zd b 11)=some c/\w.frozen? ⟨b,11,none⟩=false:=
 ⟨h 0 _ rfl,h 1 _ rfl,h 2 _ rfl,h 3 _ rfl,h 4 _ rfl,h 5 _ rfl,h 6 _ rfl,h 7 _ rfl,h 8 _ rfl,h 9 _ rfl,h 10 _ rfl,h 11 _ rfl⟩
theorem c6{a c d e f g:Value}(h:Aa w b [a,c,d,e,f,g]):(w.cell? (Zd b 0)=some a/\w.frozen? ⟨b,0,none⟩=false)/\(w.cell? (Zd b 1)=some c/\w.frozen? ⟨b,1,none⟩=false)/\(w.cell? (Zd b 2)=some d/\w.frozen? ⟨b,2,none⟩=false)/\(w.cell? (Zd b 3)=some e/\w.frozen? ⟨b,3,none⟩=false)/\(w.cell? (Zd b 4)=some f/\w.frozen? ⟨b,4,none⟩=false)/\w.cell? (Zd b 5)=some g/\w.frozen? ⟨b,5,none⟩=false:=
 ⟨h 0 _ rfl,h 1 _ rfl,h 2 _ rfl,h 3 _ rfl,h 4 _ rfl,h 5 _ rfl⟩
def RdS(n:Nat)(w:Zh)(ta pa la:Zk)(ks:List Kd)(ps:List Pd)(ls:List Ld):Prop:=∀V w',(∀b∈V,b<n)->Tn V w w'->Bt w' w'.heap.size ta pa la ks ps ls
theorem AY.jr{a:Nat}{g f e:Zk}{s q o:Nat}{r:Zj}{b:List Kd}{d:List Pd}{c:List Ld}(h:AY w a (.slice g b.length s) (.slice f d.length q) (.slice e c.length o) r b d c):RdS a w g f e b d c:=fun V t l n=>by obtain⟨_,_,_,_,_,_,i,j,k,m⟩:=(h.K n l).rows;cases i;cases j;cases k;exact m
theorem AY.get{a:Nat}{g f e:Zk}{l j i:Nat}{k:Zj}{b:List Kd}{d:List Pd}{c:List Ld}(h:AY w a (.slice g b.length l) (.slice f d.length j) (.slice e c.length i) k b d c):Bt w w.heap.size g f e b d c:=
 h.jr [] w Yu (Tn.of Ae)
structure Ra (x:An):Prop where
 A:x.A.length<=600
 B:∀k∈x.A,k.B.length<=30
 ps:x.ps.length<=100
 ls:x.ls.length<=200
theorem Ra.fit{x:An}(h:Ra x):Ro x.A x.ps x.ls:=
 ⟨by have:=h.A;omega,fun k a=>by have:=h.B k a;omega,by have:=h.ps;omega,by have:=h.ls;omega⟩
theorem Aa.fs(a c d:Zj)(h:Aa w B (a++(c++d))):w.rangeAt B a.length c:=fun j v b=>by refine(h (a.length+j) v ?_).1;rw[List.getElem?_append_right Yv,Nat.add_sub_cancel_left,List.getElem?_append_left (Zw b).1];exact b
def v0:Vd:=⟨0,0,[],[],0,0,0,0,[],[],[],0,[],[],0,0,0⟩
def SB(wd lim:Int)(ss tt:Zl)(r:Rs):Vd:=⟨wd,lim,ss,tt,wd,r.E,r.F,r.C,r.A,r.ps,r.ls,0,[],[],0,0,0⟩
def FO(wd lim:Int)(ss tt:Zl)(c:Int)(v:Vd):Prop:=
 (¬((1<=wd/\wd<=8)/\(0<=lim/\lim<=1000000)/\Ct ss tt=true)/\c=1/\v=v0)\/
 (((1<=wd/\wd<=8)/\(0<=lim/\lim<=1000000)/\Ct ss tt=true)/\(((∃n,Ec wd (ss++tt) n)/\c=2/\v=v0)\/(∃r,BS wd r0 (ss++tt) r/\c=0/\v=SB wd lim ss tt r)))
theorem FO.de{a:Int}{d e:Zl}{b:Int}{f:Vd}(h:FO i a d e c v)(k:FO i a d e b f):c=b/\v=f:=by
 rcases h with⟨j,rfl,rfl⟩|⟨g,h⟩<;>rcases k with⟨k1,rfl,rfl⟩|⟨g',k⟩
 .exact⟨rfl,rfl⟩
 .exact absurd g' j
 .exact absurd g k1
 .rcases h with⟨⟨n,h⟩,rfl,rfl⟩|⟨r,h,rfl,rfl⟩<;>rcases k with⟨⟨m,k⟩,rfl,rfl⟩|⟨q,k,rfl,rfl⟩
  .exact⟨rfl,rfl⟩
  .exact absurd k (h.not g.1.1 g.1.2)
  .exact absurd h (k.not g.1.1 g.1.2)
  .obtain rfl:=h.de k;exact⟨rfl,rfl⟩
theorem AD.nil(w:Zh)(a:Nat):AD w a Zb Zb Zb Zb Zb Zb Zb [] v0:=
 ⟨Aj.nil _ _,Aj.nil _ _,⟨rfl,⟨rfl,.inl ⟨rfl,rfl⟩⟩,(fun i k r h=>by cases i<;>cases h),⟨rfl,.inl ⟨rfl,rfl⟩⟩,⟨rfl,.inl ⟨rfl,rfl⟩⟩,List.nodup_nil⟩,Aj.nil _ _,Aj.nil _ _,List.nodup_nil⟩
def Abs(wd lim:Int)(ss tt:Zl)(w:Zh)(e:Ending)(w':Zh):Prop:=
 ∃(c:Int) (v:Vd) (S U T P L Q M:Value) (rs:Zj),FO wd lim ss tt c v/\e=.returned (.tuple #[.agg #[Zg v.wd,Zg v.lim,S,U,Zg v.S,Zg v.E,Zg v.F,Zg v.C,T,P,L,Zg v.L,Q,M,Zg v.Q,Zg v.P,Zg v.ro],Zg c])/\AD w' w.heap.size S U T P L Q M rs v/\Zz w w'
structure ZZ (ss D:Zl):Prop where
 s:ss.length<=1048576
 t:D.length<=1048576
 ss:∀s∈ss,s.size<=1048576
 D:∀s∈D,s.size<=1048576
theorem Aj.gq{c:Nat}{a:Zk}{d:Zl}(h:Aj w b (.slice a n c) d):Ad w w.heap.size a d:=by obtain⟨g,i,e,f⟩:=h.row;cases e;exact f
theorem Mp:Ge v0:=⟨by simp[v0],by simp[v0],by simp[v0],by simp[v0],⟨by simp[v0],by simp[v0],by simp[v0],by simp[v0]⟩,⟨by simp[v0],by simp[v0]⟩,by simp[v0,FB]⟩
theorem Mq{a b:Zl}{k:Int}(e:∀s∈a,s.size<=1048576)(f:∀s∈b,s.size<=1048576):(Bx a b k).length<=1048576/\∀s∈Bx a b k,s.size<=1048576:=by
 unfold Bx;split
 .next h=>
  have c:=EG h;rw[List.length_append]at c;refine⟨?_,fun s d=> ?_⟩
  .rw[List.length_append,List.length_take];omega
  .rcases List.mem_append.1 d with h|h
   .exact e s h
   .exact f s (List.mem_of_mem_take h)
 .exact⟨Yu,Yu⟩
theorem YD{u:Value}{l:Zl}(h:w.ownsRow n 9 1 u l.length (l.map Value.string)):∃a c,u=.slice a l.length c/\Ad w w.heap.size a l/\(a=none->l.length=0/\c=0):=by
 obtain⟨a,c,rfl,b⟩:=(Aj.own h).row;refine⟨a,c,rfl,b,fun e=> ?_⟩;subst e;rcases h.2 with⟨e,_⟩|⟨g,cap,d,e,_⟩
 .injection e with _ e2 e3;exact⟨e2,e3⟩
 .injection e with e1;cases e1
theorem FO.fit{m:Int}{e f:Zl}(h:FO m i e f c v)(a:ZZ e f):Ge v:=by
 rcases h with⟨_,_,rfl⟩|⟨g,⟨_,_,rfl⟩|⟨r,l,_,rfl⟩⟩
 .exact Mp
 .exact Mp
 .have b:=l.ok (Du g.1.1 g.1.2);have n:=b.bn.len;have o:=b.np;have q:=b.nl;have d:=b.dv;have s:=Lo d;exact⟨a.s,a.t,a.ss,a.D,⟨by show r.A.length<=_;omega,fun k j=>by have:=d k j;omega,by show r.ps.length<=_;omega,by show r.ls.length<=_;omega⟩,⟨by simp[SB],by simp[SB]⟩,by show FB r.A<=_;omega⟩
structure Ed where
 kd:Int
 s:Zi
 nm:Zi
 H:Int
 tx:Zi
 rf:Zl
def Ed.ok(e:Ed)(wd:Int):Bool:=Bw e.kd e.s e.nm e.H e.tx e.rf wd
def Ed.cg(e:Ed)(wd:Int):Zi:=Ch e.kd e.s e.nm e.H e.tx e.rf wd
def Ed.no(e:Ed)(v:Vd)(c:Int)(a b:Zi):Prop:=Fh v.wd v.E v.F v.C v.A v.ps v.ls e.kd e.s e.nm e.H e.tx e.rf c a b
def Ed.yes(e:Ed)(v:Vd)(r:Rs):Prop:=CN v.wd v.E v.F v.C v.A v.ps v.ls e.kd e.s e.nm e.H e.tx e.rf r
def Ed.ff(e:Ed)(v:Vd)(r:Rs):Bool:=decide (e.kd=1)&&decide (v.lim<DA v.wd r.A)
def Ed.jg(e:Ed)(v:Vd)(r:Rs):Prop:=e.ff v r=true
def Ed.held(e:Ed)(r:Rs):Zi:=if e.kd=1 then r.y else e.s
structure Dd where
 c:Int
 v:Vd
 s:Zi
 n:Int
 a:Zi
 b:Zi
def Fi(c:Int)(v:Vd)(a b:Zi):Dd:=⟨c,v,⟨#[]⟩,0,a,b⟩
noncomputable def doV (v:Vd) (e:Ed) (r:Rs):Vd:={v with D:=v.D++[e.cg v.wd],E:=r.E,F:=r.F,C:=r.C,A:=r.A,ps:=r.ps,ls:=r.ls,G:=shQ v.L r.A v.G v.ms (e.held r)}
noncomputable def dyes (v:Vd) (e:Ed) (r:Rs):Dd:=⟨0,doV v e r,r.y,r.le,⟨#[]⟩,⟨#[]⟩⟩
def KP(v:Vd)(e:Ed)(c:Int)(a b:Zi):Prop:=
 (e.ok v.wd=false/\c=1/\a=⟨#[]⟩/\b=⟨#[]⟩)\/(e.ok v.wd=true/\(e.no v c a b\/(a=⟨#[]⟩/\b=⟨#[]⟩/\∃r,e.yes v r/\((e.jg v r/\c=8)\/(¬e.jg v r/\v.ss.length+v.D.length=4000/\c=9)))))
def PG(v:Vd)(e:Ed)(r:Rs):Prop:=e.ok v.wd=true/\e.yes v r/\¬e.jg v r/\¬v.ss.length+v.D.length=4000
def Gt(v:Vd)(e:Ed)(d:Dd):Prop:=(¬Cy v/\d=Fi 1 v0 ⟨#[]⟩ ⟨#[]⟩)\/(Cy v/\((∃c a b,KP v e c a b/\d=Fi c v a b)\/∃r,PG v e r/\d=dyes v e r))
theorem DM.fe(h:DM v r):FN v.wd v.E v.F v.C v.A v.ps v.ls:=by have a:FN v.wd r.E r.F r.C r.A r.ps r.ls:=h.run.ok (Du h.wd.1 h.wd.2);obtain⟨⟨_,b,c,d⟩,e,f,g⟩:=h.same;rw[b,c,d,e,f,g]at a;exact a
theorem KP.code{e:Ed}{a b:Zi}(h:KP v e c a b):c≠0:=by
 rcases h with⟨_,h,_⟩|⟨_,h|⟨_,_,r,_,⟨_,h⟩|⟨_,_,h⟩⟩⟩
 .omega
 .have:=Fh.code h;omega
 .omega
 .omega
theorem KP.de(m:DM v r){e:Ed}{j:Int}{a b g i:Zi}(h:KP v e c a b)(k:KP v e j g i):c=j/\a=g/\b=i:=by
 have f:=m.fe.bn.nd;rcases h with⟨d,rfl,rfl,rfl⟩|⟨d,h|⟨rfl,rfl,n,l,h⟩⟩<;>rcases k with⟨k1,rfl,rfl,rfl⟩|⟨k1,k|⟨rfl,rfl,r2,ky,k⟩⟩
 .exact⟨rfl,rfl,rfl⟩
 .rw[d]at k1;cases k1
 .rw[d]at k1;cases k1
 .rw[d]at k1;cases k1
 .exact Fh.de f h k
 .exact(Fh.not f h ky).elim
 .rw[d]at k1;cases k1
 .exact(Fh.not f k l).elim
 .obtain rfl:=CN.de l ky;rcases h with⟨h,rfl⟩|⟨h,_,rfl⟩<;>rcases k with⟨k,rfl⟩|⟨k,_,rfl⟩
  .exact⟨rfl,rfl,rfl⟩
  .exact absurd h k
  .exact absurd k h
  .exact⟨rfl,rfl,rfl⟩
theorem KP.not(g:DM v r){e:Ed}{a b:Zi}(h:KP v e c a b){n:Rs}(k:PG v e n):False:=by
 obtain⟨d,f,l,m⟩:=k;rcases h with⟨i,_⟩|⟨_,h|⟨_,_,o,j,h⟩⟩
 .rw[i]at d;cases d
 .exact Fh.not g.fe.bn.nd h f
 .obtain rfl:=CN.de j f;rcases h with⟨h,_⟩|⟨_,h,_⟩
  .exact l h
  .exact m h
theorem Gt.de{e:Ed}{d g:Dd}(h:Gt v e d)(k:Gt v e g):d=g:=by
 rcases h with⟨h,rfl⟩|⟨⟨r,h⟩,i⟩<;>rcases k with⟨k,rfl⟩|⟨k,kk⟩
 .rfl
 .exact absurd k h
 .exact absurd ⟨r,h⟩ k
 .rcases i with⟨c,a,b,f,rfl⟩|⟨j,f,rfl⟩<;>rcases kk with⟨c',a',b',k1,rfl⟩|⟨r2,k1,rfl⟩
  .obtain⟨rfl,rfl,rfl⟩:=f.de h k1;rfl
  .exact(f.not h k1).elim
  .exact(k1.not h f).elim
  .rw[CN.de f.2.1 k1.2.1]
theorem Ed.dw{e:Ed}{b:Int}(h:e.ok b=true):(e.cg b).size<=5000:=by
 obtain⟨_,_,p⟩:=DR h;unfold Ed.cg Ch;rw[if_pos (show Bw e.kd e.s e.nm e.H e.tx e.rf b=true from h)];show(CY e.kd.toNat e.s e.nm e.H e.tx e.rf).toArray.size<=5000;have d:=p.sum;have f:=p.name;have g:(if e.kd.toNat=1 then BG e.tx e.rf else []).length<=3000:=by
  split
  .next hk=>
   have a:=Be (p.dt hk);have c:=a.bk;have i:=a.J;rw[BG,List.length_cons,List.length_append,Dx];simp only[Array.length_toList];have j:e.tx.data.size=e.tx.size:=rfl;omega
  .simp
 rw[List.size_toArray];unfold CY Ck;simp only[List.length_append,List.length_cons,List.length_nil,Array.length_toList];have a:e.s.data.size=e.s.size:=rfl;have c:e.nm.data.size=e.nm.size:=rfl;omega
theorem Gt.fit{e:Ed}{d:Dd}(h:Gt v e d)(i:Ge v):Ge d.v:=by
 rcases h with⟨_,rfl⟩|⟨⟨r,l⟩,⟨c,a,b,_,rfl⟩|⟨g,m,rfl⟩⟩
 .exact Mp
 .exact i
 .have j:=l.fe.step m.1 m.2.1;have q:=j.bn.len;have t:=j.np;have u:=j.nl;have w:=Lo j.dv;have n:=EG l.log;rw[List.length_append]at n;have x:=Ed.dw m.1;refine⟨i.s,?_,i.ss,?_,⟨by show g.A.length<=_;omega,fun k o=>by have:=j.dv k o;omega,by show g.ps.length<=_;omega,by show g.ls.length<=_;omega⟩,⟨?_,i.r.m⟩,by show FB g.A<=_;omega⟩
  .show(v.D++[e.cg v.wd]).length<=_;rw[List.length_append,List.length_singleton];omega
  .intro s f;rcases List.mem_append.1 f with f|f
   .exact i.D s f
   .rw[List.mem_singleton]at f;subst f;omega
  .show(shQ v.L g.A v.G v.ms (e.held g)).length<=_;have y:=l.round.dy.nq;unfold shQ;split
   .rw[List.length_append,List.length_singleton];omega
   .omega
def Wx(d:Dd)(S U T P L Q M:Value):Zj:=Zg d.c::(Bm d.v S U T P L Q M++[.string d.s,Zg d.n,.string d.a,.string d.b])
def EX:Zj:=[Ze,Ze,Ze,Zb,Zb,Ze,Ze,Ze,Ze,Zb,Zb,Zb,Ze,Zb,Zb,Ze,Ze,Ze,Zc,Ze,Zc,Zc]
theorem Aa.ji{o:Nat}{t:TypeId}{l:Zj}(h:w.heap[o]?=some (.cells l.toArray t (0,0))):Aa w o l:=fun j v a=>by refine⟨?_,by simp[World.frozen?,h]⟩;simp[World.cell?,h];exact a
theorem Aa.fg:∀(vs l1 l2 l3:Zj) (w:Zh),Aa w B (l1++(l2++l3))->vs.length=l2.length->Aa (w.setCells B l1.length vs) B (l1++(vs++l3))
 |[],l1,[],l3,w,h,_=>h
 |v::r,l1,u::l2,l3,w,h,hl=>by have a:=h.set l1.length v;rw[show(l1++(u::l2++l3)).set l1.length v=(l1++[v])++(l2++l3) by simp]at a;have b:=Aa.fg r (l1++[v]) l2 l3 _ a (by simpa using hl);rw[List.length_append,List.length_singleton,List.append_assoc,List.singleton_append,<-List.cons_append]at b;exact b
 |[],_,_::_,_,_,_,h=>by simp at h
 |_::_,_,[],_,_,_,h=>by simp at h
theorem Aa.fc(a c d:Zj)(h:Aa w B (a++(c++d))):w.there B a.length c.length:=fun j e=>by have b:=h (a.length+j) _ (Zv Yt);exact⟨by rw[b.1];rfl,b.2⟩
theorem AD.apart{c:Nat}{h:Zj}(A:Aj w c S v.ss)(C:Aj w c U v.D)(n:∀g,Ai S=some g->Ai U≠some g)(i:AY w c T P L h v.A v.ps v.ls)(z:Aj w c Q v.G)(y:Aj w c M v.ms)(l:∀g,Ai Q=some g->Ai M≠some g)(r:∀g,Ai S=some g\/Ai U=some g->g∉Ci T P L h)(t:∀g,Ai Q=some g\/Ai M=some g->g∉Ci T P L h)(x:∀g j,Ai S=some g\/Ai U=some g->Ai Q=some j\/Ai M=some j->g≠j):AD w c S U T P L Q M h v:=by
 refine⟨A,C,i,z,y,?_⟩;have k:=i.nd;rw[FY]at k;unfold CV;generalize Ci T P L h=B at *
 generalize Ai S=s at *
 generalize Ai U=u at *
 generalize Ai Q=q at *
 generalize Ai M=m at *
 have one:∀o:Option Nat,o.toList.Nodup:=fun o=>by cases o<;>simp
 simp only[List.nodup_append,List.mem_append,Option.mem_toList];refine⟨⟨one _,one _,fun a f b d e=>n a f (e▸d)⟩,⟨k,⟨one _,one _,fun a f b d e=>l a f (e▸d)⟩,fun a f b d e=>t b d (e▸f)⟩,fun a f b d e=> ?_⟩;rcases d with d|d
 .exact r a f (e▸d)
 .exact x a b f d e
theorem VM{a:Zi}(h:¬a=⟨#[]⟩):a.toList.isEmpty=false:=by
 cases e:a.toList with
 |nil=>exact absurd (toList_inj (b:=⟨#[]⟩) (by rw[e];simp)) h
 |cons x l=>rfl
def dL(d:Dd)(vs:Zj):Zj:=Zg d.c::(vs++[.string d.s,Zg d.n,.string d.a,.string d.b])
theorem Aay{d:Dd}(h:Aa X b (dL d a))(c:a.length=17):X.cell? (Zd b 0)=some (Zg d.c)/\X.cell? (Zd b 18)=some (.string d.s)/\X.cell? (Zd b 19)=some (Zg d.n)/\X.cell? (Zd b 20)=some (.string d.a)/\X.cell? (Zd b 21)=some (.string d.b)/\X.rangeAt b 1 a:=by
 have e:∀j u,[Value.string d.s,Zg d.n,.string d.a,.string d.b][j]?=some u->X.cell? (Zd b (18+j))=some u:=fun j u f=>(h (18+j) u (by
  unfold dL;rw[show 18+j=(17+j)+1 by omega,List.getElem?_cons_succ,List.getElem?_append_right Yv,c,show 17+j -17=j by omega];exact f)).1
 exact⟨(h 0 _ rfl).1,e 0 _ rfl,e 1 _ rfl,e 2 _ rfl,e 3 _ rfl,Aa.fs [Zg d.c] a _ h⟩
theorem Ke{d:Dd}{vs:Zj}(h:vs.length=17/\∀u∈vs,u.oneCell'=true):(dL d vs).length=22/\∀u∈dL d vs,u.oneCell'=true:=by
 refine⟨by simp[dL,h.1],fun u a=> ?_⟩;simp only[dL,List.mem_cons,List.mem_append,List.not_mem_nil,or_false]at a;rcases a with rfl|a|rfl|rfl|rfl|rfl
 .rfl
 .exact h.2 u a
 .rfl
 .rfl
 .rfl
 .rfl
theorem Aa.jn{l:Zj}(h:Aa X b l)(c:l.length=n+1):b<X.heap.size:=by
 cases l with
 |nil=>simp at c
 |cons a l=>exact h.lt
theorem On{d:Dd}(h:Aa X b (dL d a))(c:a.length=17):(X.cell? (Zd b 0)=some (Zg d.c)/\X.frozen? ⟨b,0,none⟩=false)/\(X.cell? (Zd b 20)=some (.string d.a)/\X.frozen? ⟨b,20,none⟩=false)/\X.cell? (Zd b 21)=some (.string d.b)/\X.frozen? ⟨b,21,none⟩=false:=by obtain⟨m,n,o,q,r,s,t,u,v,w,e,f,g,i,j,k,l,rfl⟩:=Iu c;exact⟨h 0 _ rfl,h 20 _ rfl,h 21 _ rfl⟩
theorem MQ{d:Dd}(h:Aa X b (dL d a))(c:Int):Aa (X.setCell (Zd b 0) (Zg c)) b (dL ⟨c,d.v,d.s,d.n,d.a,d.b⟩ a):=h.set 0 _
theorem YE{d:Dd}(h:Aa X b (dL d a))(e:a.length=17)(c:Int)(p q:Zi):Aa (((X.setCell (Zd b 0) (Zg c)).setCell (Zd b 20) (.string p)).setCell (Zd b 21) (.string q)) b (dL ⟨c,d.v,d.s,d.n,p,q⟩ a):=by obtain⟨n,o,r,s,t,u,v,w,x,y,f,g,i,j,k,l,m,rfl⟩:=Iu e;exact((h.set 0 _).set 20 _).set 21 _
def Kf(v:Vd)(e:Ed)(Z:Rs->Zk->Nat->Zk->Nat->Zk->Nat->Zh->Prop)(X:Zh)(ch:Zj):Prop:=
 (∃c p q,e.no v c p q/\ch=BB c p q)\/∃r ta tc pa pc la lc,e.yes v r/\ch=[Ze,Zg v.wd,Zg r.E,Zg r.F,Zg r.C,.slice ta r.A.length tc,.slice pa r.ps.length pc,.slice la r.ls.length lc,.string r.y,Zg r.le,Zc,Zc]/\Z r ta tc pa pc la lc X
theorem Kf.small{e:Ed}{Z:Rs->Zk->Nat->Zk->Nat->Zk->Nat->Zh->Prop}(h:Kf v e Z X a):a.length=12/\∀u∈a,u.oneCell'=true:=by
 rcases h with⟨c,p,q,_,rfl⟩|⟨r,i,j,f,g,b,d,_,rfl,_⟩
 .exact⟨rfl,by simp[BB,Value.oneCell']⟩
 .exact⟨rfl,by simp[Value.oneCell']⟩
theorem AD.co{a:Nat}{k:Zj}(h:AD d a S U T P L Q M k v)(m:n<=a)(f:Zz d X):∀V c,(∀b∈V,b<n)->Tn V X c->VRa v c.heap.size c (Bm v S U T P L Q M):=fun V c i g=>by refine(h.stays (((Tn.of (V:=[]) f).mono Yu).trans g) (fun b j e=> ?_)).iz;have l:=h.lo b e;have:=i b j;omega
theorem AD.ap{c:Nat}{d:Zj}(h:AD w c S U T P L Q M d v):(∀g,Ai U=some g->Ai S≠some g)/\∀g,Ai U=some g->Ai Q≠some g/\Ai M≠some g:=by
 have a:=h.nd;unfold CV at a;generalize Ci T P L d=B at *
 simp only[List.nodup_append,List.mem_append,Option.mem_toList]at a;refine⟨fun g b i=>a.1.2.2 g i g b rfl,fun g b=>⟨fun f=> ?_,fun e=> ?_⟩⟩
 .exact a.2.2 g (.inr b) g (.inr (.inl f)) rfl
 .exact a.2.2 g (.inr b) g (.inr (.inr e)) rfl
def Aaa(v:Vd)(e:Ed)(lo:Nat)(w:Zh)(o:Ending)(w':Zh):Prop:=
 Below lo w w'/\((∃c p q,KP v e c p q/\o=.returned (.agg #[Zg c,Ze,Ze,Zb,Zb,Ze,Ze,Ze,Ze,Zb,Zb,Zb,Ze,Zb,Zb,Ze,Ze,Ze,Zc,Ze,.string p,.string q]))\/(∃r S U T P L Q M rs,PG v e r/\o=.returned (.agg (Wx (dyes v e r) S U T P L Q M).toArray)/\AD w' lo S U T P L Q M rs (doV v e r)))
theorem YF{c:Zj}{d:Dd}(h:AD X b S U T P L Q M c d.v):(Wx d S U T P L Q M).length=22/\∀u∈Wx d S U T P L Q M,u.oneCell'=true:=by obtain⟨a,h,_⟩:=h.iz;exact Ke (vs:=Bm d.v S U T P L Q M) ⟨rfl,by rw[h];simp[Bm,Value.oneCell']⟩
theorem Aaa.form{e:Ed}{lo:Nat}{b:Zh}{o:Ending}(h:Aaa v e lo w o b):Below lo w b/\∃(c:Int) (zs tl:Zj),o=.returned (.agg (Zg c::(zs++tl)).toArray)/\zs.length=17/\tl.length=4/\(∀u∈Zg c::(zs++tl),u.oneCell'=true)/\((∃p q,KP v e c p q/\tl=[Zc,Ze,.string p,.string q])\/(c=0/\∃r S U T P L Q M a,PG v e r/\Zg c::(zs++tl)=Wx (dyes v e r) S U T P L Q M/\AD b lo S U T P L Q M a (doV v e r))):=by
 obtain⟨g,⟨c,p,q,h,rfl⟩|⟨r,S,U,T,P,L,Q,M,a,h,rfl,f⟩⟩:=h
 .exact⟨g,c,Xq,[Zc,Ze,.string p,.string q],rfl,rfl,rfl,by simp[Value.oneCell'],.inl ⟨p,q,h,rfl⟩⟩
 .exact⟨g,0,Bm (doV v e r) S U T P L Q M,[.string r.y,Zg r.le,Zc,Zc],rfl,rfl,rfl,(YF (d:=dyes v e r) f).2,.inr ⟨rfl,r,S,U,T,P,L,Q,M,a,h,rfl,f⟩⟩
theorem MR(m now c b:Int)(a p l:Zk)(k pn j i h:Nat)(d:List Kd)(s:Zi)(w:Zh)(o:Bu w w.heap.size a d)(Z:d.length<=1000)(q:¬Au d s):
 Calls prog 53 #[.agg (Yg m now c b a d.length k p pn j l i h),.string s] w fun e L=>e=.returned (.agg (BB 2 ⟨#[]⟩ ⟨#[]⟩).toArray)/\Zz w L:=by
 obtain⟨W,f⟩:=Af ((w.alloc (.cells (Yg m now c b a d.length k p pn j l i h) 30)).alloc (.cells Xy 32));have g:=(Bb f).1;have y:=(Bb f).2.2.1;have z:Aa W (w.heap.size+1) z12:=by have u:=Aa.new (w.alloc (.cells (Yg m now c b a d.length k p pn j l i h) 30)) z12 32;rw[World.size_alloc]at u;rw[f];exact u
 have r:=Yw (Ey m now c b a k (.slice p pn j) (.slice l i h) d s W w.heap.size (Bu.below o g) g.size Yv);have Y:=IB q;have t:=Yw f;have A:=Yw z;obtain⟨v0,E,F,G,H,I,J,K⟩:=AQ y;clear f y z o q;go_enter func53,ntmps53;go_upto_region 1 with fail;rw[<-t.o];clear t;go_wp2_with fail;refine r.Ah ?_;rintro e M ⟨rfl,n⟩
 obtain⟨⟨N,q0⟩,⟨O,q1⟩,⟨P,q2⟩,⟨Q,q3⟩,⟨R,q4⟩,⟨S,q5⟩,⟨T,q6⟩,⟨U,q7⟩,⟨V,q8⟩,⟨X,q9⟩,⟨B,zA⟩,C,zB⟩:=AS (Aa.below (v:=Ze) A.o n);have x:=g.trans (n.mono g.size);generalize CJ d s=fi at *
 clear v0 E F G H I J K r;go_wp2;refine bodyPost_ret (v:=.agg (BB 2 ⟨#[]⟩ ⟨#[]⟩).toArray) (by simp[results,results53,go_sem,N,O,P,Q,R,S,T,U,V,X,B,C,BB]) rfl ?_;exact⟨rfl,x.trans (Tn.below (Ba M (w.heap.size+1) _ _ _ _ _ _ _ _ _ _ _ _) x.size (by intro v D;simp at D;omega))⟩
theorem Dv(f:Int)(y:Nat)(args:Array Value)(u now c a:Int)(o m j:Zk)(r q pn n l k:Nat)(s x d:Zi)(g:Int)(B:Zk)(D C:Nat)(w:Zh)(V:List Nat)(Q:Zh->Ending->Zh->Prop)(U:Ending->Zh->Prop)(hk:(f=1/\y=46/\args= #[.agg (Yg u now c a o r q m pn n j l k),.agg (Xz f s x g d B D C)])\/(f=2/\y=47/\args= #[.agg (Yg u now c a o r q m pn n j l k),.agg (Xz f s x g d B D C)])\/(f=3/\y=48/\args= #[.agg (Yg u now c a o r q m pn n j l k),.string x])\/(f=5/\y=51/\args= #[.agg (Yg u now c a o r q m pn n j l k),Zg g])\/(f=6/\y=52/\args= #[.agg (Yg u now c a o r q m pn n j l k),Zg g])\/(f=7/\y=53/\args= #[.agg (Yg u now c a o r q m pn n j l k),.string s]))(hV:∀b∈V,b<w.heap.size)(hc:∀X,Zz w X->w.heap.size+3<=X.heap.size->Calls prog y args X (Q X))(hf:∀X e t,Q X e t->Tn V X t/\∃(c0 c1 c2 c3 c4:Int) (N:Zk) (P O:Nat) (J:Zk) (L K:Nat) (F:Zk) (I G:Nat) (M:Zi) (H:Int) (Y Z:Zi),e=.returned (.agg #[Zg c0,Zg c1,Zg c2,Zg c3,Zg c4,.slice N P O,.slice J L K,.slice F I G,.string M,Zg H,.string Y,.string Z]))(hq:∀X e t i,Zz w X->w.heap.size+3<=X.heap.size->Q X e t->Tn [w.heap.size+2] t i->U e i):
 Calls prog 22 #[.agg (Yg u now c a o r q m pn n j l k),.agg (Xz f s x g d B D C)] w U:=by
 obtain⟨W,A⟩:=Af (((w.alloc (.cells (Yg u now c a o r q m pn n j l k) 30)).alloc (.cells (Xz f s x g d B D C) 38)).alloc (.cells Xy 32));have bW:=(Bo A).1;have zE:=(Bo A).2.1;have x0:=(Bo A).2.2.1;have xe:Aa W (w.heap.size+1) (Ya f s x g d B D C):=by have z:=Aa.new (w.alloc (.cells (Yg u now c a o r q m pn n j l k) 30)) (Ya f s x g d B D C) 38;rw[World.size_alloc]at z;rw[A];exact Aa.below z (Zy)
 have x1:Aa W (w.heap.size+2) z12:=by have z:=Aa.new ((w.alloc (.cells (Yg u now c a o r q m pn n j l k) 30)).alloc (.cells (Xz f s x g d B D C) 38)) z12 32;rw[World.size_alloc,World.size_alloc]at z;rw[A];exact z
 have HC:=Yw (hc W bW Yv);have HQ:Hid (∀e t i,Q W e t->Tn [w.heap.size+2] t i->U e i):=fun e t i z h2=>hq W e t i bW Yv z h2;have HF:=Yw (hf W);have R:Hid (Aa W (w.heap.size+2) z12):=x1;have HV:Hid (∀b∈V,b<w.heap.size):=hV;have HW:=Yw A;obtain⟨v0,v1,v2,v3,v4,v5,v6⟩:=Aa.c7 x0 0 1 2 3 4 5 6;obtain⟨e0,e1,e2,e3,e4,e5⟩:=Aa.c6 xe 0 1 2 3 4 5;clear A x0 xe x1 hc hq hf hV bW
 rcases hk with⟨rfl,rfl,rfl⟩|⟨rfl,rfl,rfl⟩|⟨rfl,rfl,rfl⟩|⟨rfl,rfl,rfl⟩|⟨rfl,rfl,rfl⟩|⟨rfl,rfl,rfl⟩
 all_goals
  go_enter func22,ntmps22;go_upto_region 1 with fail;rw[<-HW.o];clear HW;go_wp2_with fail;refine HC.Ah ?_;intro e w1 E;obtain⟨S,c0,c1,c2,c3,c4,N,P,O,J,L,K,F,I,G,M,H,Y,Z,rfl⟩:=HF.o e w1 E;have T:Aa w1 (w.heap.size+2) z12:=Aa.same R.o (S.block _ R.o.lt (fun h=>by have:=HV.o _ h;omega))
  obtain⟨⟨y0,q0⟩,⟨y1,q1⟩,⟨y2,q2⟩,⟨y3,q3⟩,⟨y4,q4⟩,⟨y5,q5⟩,⟨y6,q6⟩,⟨y7,q7⟩,⟨y8,q8⟩,⟨y9,q9⟩,⟨zB,zF⟩,zC,zG⟩:=AS T;have zA:=Yw E;clear E T S v0 v1 v2 v3 v4 v5 v6 e0 e1 e2 e3 e4 e5 HC HF;go_wp2
  refine bodyPost_ret (v:=.agg #[Zg c0,Zg c1,Zg c2,Zg c3,Zg c4,.slice N P O,.slice J L K,.slice F I G,.string M,Zg H,.string Y,.string Z]) (by simp[results,results22,go_sem,y0,y1,y2,y3,y4,y5,y6,y7,y8,y9,zB,zC]) rfl ?_;exact HQ.o _ _ _ zA.o (Ba w1 (w.heap.size+2) _ _ _ _ _ _ _ _ _ _ _ _)
theorem Oe(i now b a:Int)(q n k:Zk)(t r pn o m l:Nat)(s M d:Zi)(f:Int)(N:Zk)(P O:Nat)(w:Zh)(L:Int)(Q:Zh->Ending->Zh->Prop)(Q':Ending->Zh->Prop)(zP:∀X,Zz w X->Calls prog 49 #[.agg (Yg i now b a q t r n pn o k m l),.string s] X fun e h=>e=.returned (Zg L)/\Zz X h)(zO:0<=L->∀X,Zz w X->w.heap.size+3<=X.heap.size->Calls prog 23 #[.agg (Yg i now b a q t r n pn o k m l)] X fun e h=>(∃G I H D F E A C B,e=.returned (.agg (Yg i now b a G I H D F E A C B))/\∀Y,Zz h Y->Calls prog 50 #[.agg (Yg i now b a G I H D F E A C B),.string s,Zg f] Y (Q X))/\Zz X h)(hf:∀X e h,Zz w X->Q X e h->Zz X h/\∃(c0 c1 c2 c3 c4:Int) (G:Zk) (I H:Nat) (D:Zk) (F E:Nat) (A:Zk) (C B:Nat) (zB:Zi) (zA:Int) (a' b':Zi),e=.returned (.agg #[Zg c0,Zg c1,Zg c2,Zg c3,Zg c4,.slice G I H,.slice D F E,.slice A C B,.string zB,Zg zA,.string a',.string b']))(zS:L<0->∀h,Zz w h->Q' (.returned (.agg (BB 2 ⟨#[]⟩ ⟨#[]⟩).toArray)) h)(hq:0<=L->∀X e h zU,Zz w X->w.heap.size+3<=X.heap.size->Q X e h->Tn [w.heap.size+2] h zU->Q' e zU):
 Calls prog 22 #[.agg (Yg i now b a q t r n pn o k m l),.agg (Xz 4 s M f d N P O)] w Q':=by
 obtain⟨W,J⟩:=Af (((w.alloc (.cells (Yg i now b a q t r n pn o k m l) 30)).alloc (.cells (Xz 4 s M f d N P O) 38)).alloc (.cells Xy 32));have bW:=(Bo J).1;have yA:=(Bo J).2.1;have j:=(Bo J).2.2.1;have y:Aa W (w.heap.size+1) (Ya 4 s M f d N P O):=by have T:=Aa.new (w.alloc (.cells (Yg i now b a q t r n pn o k m l) 30)) (Ya 4 s M f d N P O) 38;rw[World.size_alloc]at T;rw[J];exact Aa.below T (Zy)
 have R:Aa W (w.heap.size+2) z12:=by have T:=Aa.new ((w.alloc (.cells (Yg i now b a q t r n pn o k m l) 30)).alloc (.cells (Xz 4 s M f d N P O) 38)) z12 32;rw[World.size_alloc,World.size_alloc]at T;rw[J];exact T
 have zI:=Yw (zP W bW);have K:Hid (∀X,Zz W X->Aa X w.heap.size (Yh i now b a q t r n pn o k m l)/\Aa X (w.heap.size+1) (Ya 4 s M f d N P O)/\Aa X (w.heap.size+2) z12/\Zz w X):=fun X x=>⟨Aa.below j x,Aa.below y x,Aa.below (v:=Ze) R x,bW.trans (x.mono bW.size)⟩;have HW:=Yw J;have zH:=Yw zO;have HF:=Yw hf;have zW:=Yw zS;have HQ:=Yw hq;obtain⟨v0,v1,v2,v3,v4,v5,v6⟩:=Aa.c7 j 0 1 2 3 4 5 6
 obtain⟨e0,e1,e2,e3,e4,e5⟩:=Aa.c6 y 0 1 2 3 4 5;clear J j y R zP zO hf zS hq bW;go_enter func22,ntmps22;go_upto_region 1 with fail;rw[<-HW.o];clear HW;go_wp2_with fail;refine zI.Ah ?_;rintro e c ⟨rfl,zM⟩;have U:Hid (Zz W c):=zM;clear v0 v1 v2 v3 v4 v5 v6 e0 e1 e2 e3 e4 e5 zI zM;obtain⟨j,y,R,Z⟩:=K.o c U.o;by_cases hneg:L<0
 .obtain⟨⟨y0,q0⟩,⟨y1,q1⟩,⟨y2,q2⟩,⟨y3,q3⟩,⟨y4,q4⟩,⟨y5,q5⟩,⟨y6,q6⟩,⟨y7,q7⟩,⟨y8,q8⟩,⟨y9,q9⟩,⟨zC,zY⟩,zE,zZ⟩:=AS R;have zF:=Yw Z;clear j y R Z K;go_wp2;refine bodyPost_ret (v:=.agg (BB 2 ⟨#[]⟩ ⟨#[]⟩).toArray) (by simp[results,results22,go_sem,y0,y1,y2,y3,y4,y5,y6,y7,y8,y9,zC,zE,BB]) rfl ?_
  exact zW.o hneg _ (zF.o.trans (Tn.below (Ba c (w.heap.size+2) _ _ _ _ _ _ _ _ _ _ _ _) zF.o.size (by intro v hv;simp at hv;omega)))
 .have h0:0<=L:=Yv
  have D1:Below c.heap.size c c.drew:=Ae.drew;have bd:=U.o.trans (D1.mono U.o.size);have u:=(K.o _ bd).2.2.2;have zT:w.heap.size+3<=c.drew.heap.size:=by have:=bd.size;omega
  have zG:=Yw (zH.o h0 c.drew u zT);have z:=Yw bd
  have P1:c.drew.cell? (Zd (w.heap.size) 0)=some (Zg i)/\c.drew.cell? (Zd (w.heap.size) 1)=some (Zg now)/\c.drew.cell? (Zd (w.heap.size) 2)=some (Zg b)/\c.drew.cell? (Zd (w.heap.size) 3)=some (Zg a)/\c.drew.cell? (Zd (w.heap.size) 4)=some (.slice q t r)/\c.drew.cell? (Zd (w.heap.size) 5)=some (.slice n pn o)/\c.drew.cell? (Zd (w.heap.size) 6)=some (.slice k m l)/\c.drew.cell? (Zd (w.heap.size+1) 1)=some (.string s)/\c.drew.cell? (Zd (w.heap.size+1) 3)=some (Zg f):=⟨(j 0 _ rfl).1,(j 1 _ rfl).1,(j 2 _ rfl).1,(j 3 _ rfl).1,(j 4 _ rfl).1,(j 5 _ rfl).1,(j 6 _ rfl).1,(y 1 _ rfl).1,(y 3 _ rfl).1⟩
  have HS:Hid (∀X,Zz W X->X.cell? (Zd (w.heap.size) 0)=some (Zg i)/\X.cell? (Zd (w.heap.size) 1)=some (Zg now)/\X.cell? (Zd (w.heap.size) 2)=some (Zg b)/\X.cell? (Zd (w.heap.size) 3)=some (Zg a)/\X.cell? (Zd (w.heap.size) 4)=some (.slice q t r)/\X.cell? (Zd (w.heap.size) 5)=some (.slice n pn o)/\X.cell? (Zd (w.heap.size) 6)=some (.slice k m l)/\X.cell? (Zd (w.heap.size+1) 1)=some (.string s)/\X.cell? (Zd (w.heap.size+1) 3)=some (Zg f)):=fun X x=>by
   obtain⟨g,S,_⟩:=K.o X x;exact⟨(g 0 _ rfl).1,(g 1 _ rfl).1,(g 2 _ rfl).1,(g 3 _ rfl).1,(g 4 _ rfl).1,(g 5 _ rfl).1,(g 6 _ rfl).1,(S 1 _ rfl).1,(S 3 _ rfl).1⟩
  have zK:Hid (∀X Y,Zz W X->Tn [w.heap.size+1+1] X Y->Y.cell? (Zd (w.heap.size) 0)=some (Zg i)/\Y.cell? (Zd (w.heap.size) 1)=some (Zg now)/\Y.cell? (Zd (w.heap.size) 2)=some (Zg b)/\Y.cell? (Zd (w.heap.size) 3)=some (Zg a)/\Y.cell? (Zd (w.heap.size) 4)=some (.slice q t r)/\Y.cell? (Zd (w.heap.size) 5)=some (.slice n pn o)/\Y.cell? (Zd (w.heap.size) 6)=some (.slice k m l)/\Y.cell? (Zd (w.heap.size+1) 1)=some (.string s)/\Y.cell? (Zd (w.heap.size+1) 3)=some (Zg f)):=fun X Y x hY=>by
   obtain⟨z0,z1,_⟩:=K.o X x;have g:=Aa.same z0 (hY.block _ z0.lt Yt);have S:=Aa.same z1 (hY.block _ z1.lt Yu);exact⟨(g 0 _ rfl).1,(g 1 _ rfl).1,(g 2 _ rfl).1,(g 3 _ rfl).1,(g 4 _ rfl).1,(g 5 _ rfl).1,(g 6 _ rfl).1,(S 1 _ rfl).1,(S 3 _ rfl).1⟩
  have zV:=hneg;clear j y R Z bd P1;go_upto_region 11 with fail
  go_region_held3 (fun X=>X.cell? (Zd (w.heap.size) 0)=some (Zg i)/\X.cell? (Zd (w.heap.size) 1)=some (Zg now)/\X.cell? (Zd (w.heap.size) 2)=some (Zg b)/\X.cell? (Zd (w.heap.size) 3)=some (Zg a)/\X.cell? (Zd (w.heap.size) 4)=some (.slice q t r)/\X.cell? (Zd (w.heap.size) 5)=some (.slice n pn o)/\X.cell? (Zd (w.heap.size) 6)=some (.slice k m l)/\X.cell? (Zd (w.heap.size+1) 1)=some (.string s)/\X.cell? (Zd (w.heap.size+1) 3)=some (Zg f))
   (first|with_reducible exact HS.o _ z.o|with_reducible exact HS.o _ B2|with_reducible exact HS.o _ B3|with_reducible exact zK.o _ _ B3 (Ba _ _ _ _ _ _ _ _ _ _ _ _ _ _))
   (first
     |(go_at_call 23;refine zG.Ah ?_;rintro e w2 ⟨⟨G,I,H,D,F,E,A,C,B,rfl,zR⟩,zN⟩;have B2:Below W.heap.size W w2:=z.o.trans (zN.mono z.o.size);have zJ:=Yw (zR w2 Ae);clear zR zN)
     |(go_at_call 50;refine zJ.Ah ?_;intro e w3 V;obtain⟨hb3,c0,c1,c2,c3,c4,ua',un',uc',va',vn',vc',xa',xn',xc',zB,zA,a',b',rfl⟩:=HF.o c.drew e w3 u V;have B3:Below W.heap.size W w3:=z.o.trans (hb3.mono z.o.size);have zX:=Yw V;obtain⟨_,_,zz1,_⟩:=K.o w3 B3;obtain⟨⟨y0,q0⟩,⟨y1,q1⟩,⟨y2,q2⟩,⟨y3,q3⟩,⟨y4,q4⟩,⟨y5,q5⟩,⟨y6,q6⟩,⟨y7,q7⟩,⟨y8,q8⟩,⟨y9,q9⟩,⟨zC,zY⟩,zE,zZ⟩:=AS zz1;clear V hb3 zz1))
  clear zJ zG HS zK zH HF;go_wp2;refine bodyPost_ret (v:=.agg #[Zg c0,Zg c1,Zg c2,Zg c3,Zg c4,.slice ua' un' uc',.slice va' vn' vc',.slice xa' xn' xc',.string zB,Zg zA,.string a',.string b']) (by simp[results,results22,go_sem,y0,y1,y2,y3,y4,y5,y6,y7,y8,y9,zC,zE]) rfl ?_;exact HQ.o h0 c.drew _ _ _ u zT zX.o (Ba w3 (w.heap.size+2) _ _ _ _ _ _ _ _ _ _ _ _)
theorem QA(v:Vd)(a:Va)(w:Zh)(C:∀X,Zz w X->Calls prog 82 #[.agg #[.slice a.X v.ss.length a.sc,.slice a.V v.D.length a.W]] X fun e A=>∃x j y k,e=.returned (.agg #[Yz x v.ss.length j,Yz y v.D.length k])/\A.ownsRow X.heap.size 9 1 (Yz x v.ss.length j) v.ss.length (v.ss.map Value.string)/\A.ownsRow X.heap.size 9 1 (Yz y v.D.length k) v.D.length (v.D.map Value.string)/\x≠y/\Zz X A)(J:∀X,Zz w X->Calls prog 23 #[.agg (Yg v.S v.E v.F v.C a.Y v.A.length a.j a.O v.ps.length a.U a.M v.ls.length a.T)] X fun e A=>∃T P L r,e=.returned (.agg #[Zg v.S,Zg v.E,Zg v.F,Zg v.C,T,P,L])/\AY A X.heap.size T P L r v.A v.ps v.ls/\(∀u∈T::P::L::r,∃g n c,u=Yz g n c)/\Zz X A)(h3:∀X,Zz w X->Calls prog 149 #[.agg (Ye v.L a.g v.G.length a.qc a.i v.ms.length a.mc v.Q v.P v.ro)] X fun e A=>∃i d f b,e=.returned (.agg (Ye v.L (some ⟨i,0,none⟩) v.G.length d (some ⟨f,0,none⟩) v.ms.length b v.Q v.P v.ro))/\A.ownsRow X.heap.size 9 1 (Yz i v.G.length d) v.G.length (v.G.map Value.string)/\A.ownsRow X.heap.size 9 1 (Yz f v.ms.length b) v.ms.length (v.ms.map Value.string)/\i≠f/\Zz X A):
 Calls prog 125 #[.agg (Xp v a)] w fun e A=>∃(S U T P L Q M:Value) (r:Zj),e=.returned (.agg #[Zg v.wd,Zg v.lim,S,U,Zg v.S,Zg v.E,Zg v.F,Zg v.C,T,P,L,Zg v.L,Q,M,Zg v.Q,Zg v.P,Zg v.ro])/\AD A w.heap.size S U T P L Q M r v/\(∀u∈S::U::Q::M::T::P::L::r,∃g n c,u=Yz g n c)/\Zz w A:=by
 obtain⟨W,N⟩:=Af ((w.alloc (.cells (Xp v a) 51)).alloc (.cells Xo 51));have E:=(Bb N).1;have zW:=(Bb N).2.1;have HX:Hid (Aa W _ _):=(Bb N).2.2.1;have HZ:Hid (Aa W (w.heap.size+1) Xq):=by have C:=Aa.new (w.alloc (.cells (Xp v a) 51)) Xq 51;rw[World.size_alloc]at C;show Aa W (w.heap.size+1) Xq;rw[N];exact C
 have H1:=Yw C;have H2:=Yw J;have H3:=Yw h3;have I:Hid (∀X,Zz W X->Aa X w.heap.size (Xn v a)):=fun X Y=>Aa.below HX.o Y;have HW:=Yw N;clear N C J h3;go_enter func125,ntmps125;go_upto_region 1 with fail;rw[<-HW.o];clear HW
 go_cut [0] (fun u wx=>∃x j y k s t o q l m r i d f b,Hid (Aa wx (w.heap.size+1) (Xm v (some ⟨x,0,none⟩) j (some ⟨y,0,none⟩) k s t o q l m (some ⟨i,0,none⟩) d (some ⟨f,0,none⟩) b)/\Zz w wx/\AD wx w.heap.size (Yz x v.ss.length j) (Yz y v.D.length k) (.slice s v.A.length t) (.slice o v.ps.length q) (.slice l v.ls.length m) (Yz i v.G.length d) (Yz f v.ms.length b) r v/\∀u∈(.slice s v.A.length t)::(.slice o v.ps.length q)::(.slice l v.ls.length m)::r,∃g n c,u=Yz g n c))
 case first=>
  refine wp_region_held_drew (S:=fun X=>Aa X w.heap.size (Xn v a)) Yr (I.o _ Ae.drew) (fun hS=> ?_);refine BR 0 (Yy w.heap.size) ?_;try simp only[Act.put,Zq,Zp,Zo]
  refine Fu 1 (Zg v.wd) rfl (by exact Or.inl ⟨Yp,fun X Y=>by have h0:=(Y 0 _ rfl).1;go_simp⟩) ?_;try simp only[Act.put,Zq,Zp,Zo]
  refine BR 2 (Yx w.heap.size 1) ?_;try simp only[Act.put,Zq,Zp,Zo]
  refine Fu 3 (Zg v.lim) rfl (by exact Or.inl ⟨Yp,fun X Y=>by have h0:=(Y 1 _ rfl).1;go_simp⟩) ?_;try simp only[Act.put,Zq,Zp,Zo]
  refine BR 4 (Yx w.heap.size 2) ?_;try simp only[Act.put,Zq,Zp,Zo]
  refine Fu 5 (.agg #[.slice a.X v.ss.length a.sc,.slice a.V v.D.length a.W]) rfl (by exact yieldsIf_load_mid Yp 47 _ rfl (w.heap.size) 2 rfl [.slice a.X v.ss.length a.sc,.slice a.V v.D.length a.W] _ (fun X h=>Aa.fs [Zg v.wd,Zg v.lim] [.slice a.X v.ss.length a.sc,.slice a.V v.D.length a.W] [Zg v.S,Zg v.E,Zg v.F,Zg v.C,.slice a.Y v.A.length a.j,.slice a.O v.ps.length a.U,.slice a.M v.ls.length a.T,Zg v.L,.slice a.g v.G.length a.qc,.slice a.i v.ms.length a.mc,Zg v.Q,Zg v.P,Zg v.ro] h) underlying47 rfl Yr) ?_
  try simp only[Act.put,Zq,Zp,Zo]
  refine BR 7 (Yx w.heap.size 4) ?_;try simp only[Act.put,Zq,Zp,Zo]
  refine Fu 8 (.agg (Yg v.S v.E v.F v.C a.Y v.A.length a.j a.O v.ps.length a.U a.M v.ls.length a.T)) rfl (by exact yieldsIf_load_mid Yp 30 _ rfl (w.heap.size) 4 rfl (Yh v.S v.E v.F v.C a.Y v.A.length a.j a.O v.ps.length a.U a.M v.ls.length a.T) _ (fun X h=>Aa.fs [Zg v.wd,Zg v.lim,.slice a.X v.ss.length a.sc,.slice a.V v.D.length a.W] (Yh v.S v.E v.F v.C a.Y v.A.length a.j a.O v.ps.length a.U a.M v.ls.length a.T) (Xv v.L a.g v.G.length a.qc a.i v.ms.length a.mc v.Q v.P v.ro) h) underlying30 rfl Yr) ?_
  try simp only[Act.put,Zq,Zp,Zo]
  refine BR 10 (Yx w.heap.size 11) ?_;try simp only[Act.put,Zq,Zp,Zo]
  refine Fu 11 (.agg (Ye v.L a.g v.G.length a.qc a.i v.ms.length a.mc v.Q v.P v.ro)) rfl (by exact yieldsIf_load_mid Yp 49 _ rfl (w.heap.size) 11 rfl (Xv v.L a.g v.G.length a.qc a.i v.ms.length a.mc v.Q v.P v.ro) _ (fun X h=>Aa.fs [Zg v.wd,Zg v.lim,.slice a.X v.ss.length a.sc,.slice a.V v.D.length a.W,Zg v.S,Zg v.E,Zg v.F,Zg v.C,.slice a.Y v.A.length a.j,.slice a.O v.ps.length a.U,.slice a.M v.ls.length a.T] (Xv v.L a.g v.G.length a.qc a.i v.ms.length a.mc v.Q v.P v.ro) [] h) underlying49 rfl Yr) ?_
  try simp only[Act.put,Zq,Zp,Zo]
  refine CG 6 (fun K B=> ?_);go_simp;refine(H1.o W.drew E.drew).mono ?_;rintro e w1 ⟨x,j,y,k,rfl,zM,F,zE,zK⟩;have B1:=(Below.refl W.heap.size W).drew.trans zK;try go_simp
  refine B.out _ _ (I.o w1 B1) (fun zS=> ?_);clear B K;try simp only[Act.put,Zq,Zp,Zo]
  refine CG 9 (fun K B=> ?_);go_simp;refine(H2.o w1 (E.trans (B1.mono E.size))).mono ?_;rintro e w2 ⟨T,P,L,r,rfl,zA,zH,O⟩;obtain⟨s,t,o,q,l,m,rfl,rfl,rfl,_⟩:=zA.rows;have H:=B1.trans (O.mono B1.size);try go_simp
  refine B.out _ _ (I.o w2 H) (fun zT=> ?_);clear B K;try simp only[Act.put,Zq,Zp,Zo]
  refine CG 12 (fun K B=> ?_);go_simp;refine(H3.o w2 (E.trans (H.mono E.size))).mono ?_;rintro e Z ⟨i,d,f,b,rfl,zN,G,zF,R⟩;have V:Below W.heap.size W Z:=H.trans (R.mono H.size);try go_simp
  refine B.out _ _ (I.o Z V) (fun zU=> ?_);clear B K;try simp only[Act.put,Zq,Zp,Zo]
  refine BR 13 (.agg (Xl v (some ⟨x,0,none⟩) j (some ⟨y,0,none⟩) k s t o q l m (some ⟨i,0,none⟩) d (some ⟨f,0,none⟩) b)) ?_;try simp only[Act.put,Zq,Zp,Zo]
  refine CG 14 (fun K B=> ?_)
  have zJ:AD Z W.heap.size (Yz x v.ss.length j) (Yz y v.D.length k) (.slice s v.A.length t) (.slice o v.ps.length q) (.slice l v.ls.length m) (Yz i v.G.length d) (Yz f v.ms.length b) r v:=AD.of (n1:=w1.heap.size) (n2:=w2.heap.size) (Aj.own (Ag (Ag zM O) R)) (Aj.own (Ag (Ag F O) R)) (fun g C J=>by cases C;cases J;exact zE rfl) (fun g z=>by rcases z with z|z;(cases z;exact(zM.lt _ rfl).2);(cases z;exact(F.lt _ rfl).2)) (zA.below R) zK.size zA.cz (Aj.own (zN.mono H.size)) (Aj.own (G.mono H.size)) (fun g z=>by rcases z with z|z;(cases z;exact(zN.lt _ rfl).1);(cases z;exact(G.lt _ rfl).1)) O.size (fun g C J=>by cases C;cases J;exact zF rfl)
  have zG:((Xl v (some ⟨x,0,none⟩) j (some ⟨y,0,none⟩) k s t o q l m (some ⟨i,0,none⟩) d (some ⟨f,0,none⟩) b):Array Value).all (·.oneCell')=true:=by simp[Value.oneCell']
  have zI:=Aa.below (v:=Ze) HZ.o V;obtain⟨W9,zB⟩:=Af (Z.setCells (w.heap.size+1) 0 (Xm v (some ⟨x,0,none⟩) j (some ⟨y,0,none⟩) k s t o q l m (some ⟨i,0,none⟩) d (some ⟨f,0,none⟩) b));have x9:Aa W9 (w.heap.size+1) (Xm v (some ⟨x,0,none⟩) j (some ⟨y,0,none⟩) k s t o q l m (some ⟨i,0,none⟩) d (some ⟨f,0,none⟩) b):=by rw[zB];exact zI.au _ rfl
  have t9:Tn [w.heap.size+1] Z W9:=by rw[zB];exact AI _ _ _ _
  have z3:=V.size;have B9:Below w.heap.size w W9:=(E.trans (V.mono E.size)).trans (t9.below Yv Yu);have zP:AD W9 w.heap.size (Yz x v.ss.length j) (Yz y v.D.length k) (.slice s v.A.length t) (.slice o v.ps.length q) (.slice l v.ls.length m) (Yz i v.G.length d) (Yz f v.ms.length b) r v:=(zJ.stays t9 (fun g z zR=>by have:=zJ.lo g zR;simp at z;omega)).mono Yv
  have zC:=Yw (Zn x9 (Zn B9 (Zn zP zH)));have zO:=Aa.same (Aa.below HX.o V) (t9.block _ Yv Yu);rw[if_pos Yp];refine wp_store_mid 51 _ _ rfl (w.heap.size+1) 0 (Xl v (some ⟨x,0,none⟩) j (some ⟨y,0,none⟩) k s t o q l m (some ⟨i,0,none⟩) d (some ⟨f,0,none⟩) b) rfl rfl zI.there Yr zG ?_;try rw[<-zB]
  refine B.out _ _ zO (fun zV=> ?_);clear B K;try simp only[Act.put]
  refine wpAnyH_done Yr ?_ _;go_wp2_with fail;go_meet;exact⟨x,j,y,k,s,t,o,q,l,m,r,i,d,f,b,zC.o⟩
 case rest=>
  obtain⟨x,j,y,k,s,t,o,q,l,m,r,i,d,f,b,HQ⟩:=hcut;go_wp2;refine bodyPost_ret (AU results125 _ _ (w.heap.size+1) (Xm v (some ⟨x,0,none⟩) j (some ⟨y,0,none⟩) k s t o q l m (some ⟨i,0,none⟩) d (some ⟨f,0,none⟩) b) _ rfl HQ.o.1.range underlying51 rfl Yr) rfl ?_;refine⟨_,_,_,_,_,_,_,r,rfl,HQ.o.2.2.1,fun u D=> ?_,HQ.o.2.1⟩;rcases List.mem_cons.1 D with rfl|D
  .exact⟨_,_,_,rfl⟩
  rcases List.mem_cons.1 D with rfl|D
  .exact⟨_,_,_,rfl⟩
  rcases List.mem_cons.1 D with rfl|D
  .exact⟨_,_,_,rfl⟩
  rcases List.mem_cons.1 D with rfl|D
  .exact⟨_,_,_,rfl⟩
  exact HQ.o.2.2.2 u D
theorem Ev.ag{a:List Kd}(h:Ev w A a)(n:Bu w B (some A) a)(l:Below B w d):Ev d A a:=fun i k c=>by obtain⟨g,o,m⟩:=h i k c;obtain⟨b,f,j,e,_⟩:=n.at (Zw c).1;cases j;exact⟨g,o,(l.cell (p:=⟨b,f+i *4+3,none⟩) e).trans m⟩
theorem ND.ag{a:List Kd}(h:ND w A a)(m:Bu w B (some A) a)(j:Below B w d):ND d A a:=fun i k c n l=>by obtain⟨b,f,g,e,_⟩:=m.at (Zw c).1;cases g;exact h i k c n ((j.cell (p:=⟨b,f+i *4+3,none⟩) e).symm.trans l)
def vaS(g k g3 q3 r3 g5 k5:Nat)(v:Vd):Va:=⟨some ⟨g,0,none⟩,v.ss.length,some ⟨k,0,none⟩,v.D.length,some ⟨g3,0,none⟩,v.A.length,some ⟨q3,0,none⟩,v.ps.length,some ⟨r3,0,none⟩,v.ls.length,some ⟨g5,0,none⟩,v.G.length,some ⟨k5,0,none⟩,v.ms.length⟩
def VRx(v:Vd)(L:Nat)(X:Zh)(cs:Zj):Prop:=
 ∃g k g3 q3 r3 g5 k5,cs=[Zg v.wd,Zg v.lim,.slice (some ⟨g,0,none⟩) v.ss.length v.ss.length,.slice (some ⟨k,0,none⟩) v.D.length v.D.length,Zg v.S,Zg v.E,Zg v.F,Zg v.C,.slice (some ⟨g3,0,none⟩) v.A.length v.A.length,.slice (some ⟨q3,0,none⟩) v.ps.length v.ps.length,.slice (some ⟨r3,0,none⟩) v.ls.length v.ls.length,Zg v.L,.slice (some ⟨g5,0,none⟩) v.G.length v.G.length,.slice (some ⟨k5,0,none⟩) v.ms.length v.ms.length,Zg v.Q,Zg v.P,Zg v.ro]/\CQ X L (vaS g k g3 q3 r3 g5 k5 v) v/\Ev X ⟨g3,0,none⟩ v.A
def VOx(v:Vd)(lo N:Nat)(X:Zh)(cs:Zj):Prop:=
 (N<=X.heap.size/\lo<=X.heap.size)/\∃g k g3 q3 r3 g5 k5 rs,cs=Bm v (.slice (some ⟨g,0,none⟩) v.ss.length v.ss.length) (.slice (some ⟨k,0,none⟩) v.D.length v.D.length) (.slice (some ⟨g3,0,none⟩) v.A.length v.A.length) (.slice (some ⟨q3,0,none⟩) v.ps.length v.ps.length) (.slice (some ⟨r3,0,none⟩) v.ls.length v.ls.length) (.slice (some ⟨g5,0,none⟩) v.G.length v.G.length) (.slice (some ⟨k5,0,none⟩) v.ms.length v.ms.length)/\AD X lo (.slice (some ⟨g,0,none⟩) v.ss.length v.ss.length) (.slice (some ⟨k,0,none⟩) v.D.length v.D.length) (.slice (some ⟨g3,0,none⟩) v.A.length v.A.length) (.slice (some ⟨q3,0,none⟩) v.ps.length v.ps.length) (.slice (some ⟨r3,0,none⟩) v.ls.length v.ls.length) (.slice (some ⟨g5,0,none⟩) v.G.length v.G.length) (.slice (some ⟨k5,0,none⟩) v.ms.length v.ms.length) rs v/\(∀b∈CV (.slice (some ⟨g,0,none⟩) v.ss.length v.ss.length) (.slice (some ⟨k,0,none⟩) v.D.length v.D.length) (.slice (some ⟨g3,0,none⟩) v.A.length v.A.length) (.slice (some ⟨q3,0,none⟩) v.ps.length v.ps.length) (.slice (some ⟨r3,0,none⟩) v.ls.length v.ls.length) (.slice (some ⟨g5,0,none⟩) v.G.length v.G.length) (.slice (some ⟨k5,0,none⟩) v.ms.length v.ms.length) rs,b<N)/\∀x∈rs,∃q n c,x=.slice (some ⟨q,0,none⟩) n c
theorem AY.ib{X:Zh}{lo g c:Nat}{P L:Value}{b:Zj}{f:List Kd}{z:List Pd}{y:List Ld}(h:AY X lo (.slice (some ⟨g,0,none⟩) f.length c) P L b f z y)(v:∀x∈b,∃q n c,x=.slice (some ⟨q,0,none⟩) n c):Ev X ⟨g,0,none⟩ f:=fun i k j=>by
 have u:=(Zw j).1;have m:i<b.length:=by rw[h.len];exact u
 have o:=Zv m;obtain⟨q,n,d,e⟩:=v _ (List.getElem_mem m);have r:=(h.B i k _ j o);obtain⟨a,A,l⟩:=As r;have w:(f.zip b)[i]?=some (k,b[i]):=List.getElem?_zip_eq_some.2 ⟨j,o⟩;have s:=Cz Ko w (show 3<4 by decide);have t:=h.ak.cellAt (i *4+3) Yv;rw[e]at l;injection l with e1 e2 e3;refine⟨⟨q,0,none⟩,d,?_⟩;rw[Nat.zero_add,t,s,<-e2,<-e];rfl
theorem VOx.gq{lo:Nat}(h:VOx v lo N X e):VRx v X.heap.size X e:=by obtain⟨_,g,k,f,n,o,i,m,u,rfl,a,_,j⟩:=h;obtain⟨w,x,s,t,q,r,b,c,d,l⟩:=a.st.rows;injection b with b;injection c with c;injection d with d;subst b c d;exact⟨g,k,f,n,o,i,m,rfl,⟨a.s.gq,a.u.gq,l,a.q.gq,a.m.gq⟩,a.st.ib j⟩
def TOa(t:Zi)(refs ss:Zl)(lo N:Nat)(X:Zh)(cs:Zj):Prop:=
 (N<=X.heap.size/\lo<=X.heap.size)/\ss.length=refs.length/\∃ra rc,cs=[.string t,.slice ra refs.length rc]/\Fq X lo ra ss/\(refs≠[]->∀b,ZQ ra=some b->b<N)
theorem TOa.ag{t:Zi}{a j:Zl}{lo:Nat}{c:Zh}(h:TOa t a j lo N X e)(d:X.heap.size<=c.heap.size)(m:∀q,lo<=q->q<N->c.heap[q]?=X.heap[q]?):TOa t a j lo N c e:=by
 obtain⟨g,i,o,r,rfl,k,f⟩:=h;refine⟨⟨Zm g.1 d,Zm g.2 d⟩,i,o,r,rfl,?_,f⟩;by_cases hne:a=[]
 .exact .inl (List.eq_nil_of_length_eq_zero (by rw[i,hne];rfl))
 .exact k.stays d (fun b l n _=>m b n (f hne b l))
structure RX (wd births:Int) (ks:List Kd) (ps:List Pd) (ls:List Ld):Prop where
 b1:∀k∈ks,1<=k.born/\k.born<=births
 un:∀x∈ks,∀y∈ks,x.born=y.born->x=y
 rs:∀k∈ks,∀r∈k.B,(r.size:Int)=wd
 fw:∀p∈ps,(p.sum.size:Int)=wd
 gu:∀l∈ls,(l.sum.size:Int)=wd
theorem IZ{b:Int}{a:List Kd}(h:Em b a)(c:Au a s):(s.size:Int)=b:=by obtain⟨u,d,e⟩:=c;rw[<-e];exact h.sz u d
theorem RX.step{o now j a:Int}{u:List Kd}{z:List Pd}{w:List Ld}{F:Int}{C:Zi}{D:Int}{d:Zi}{c:Zl}(h:RX o a u z w)(t:FN o now j a u z w)(i:CN o now j a u z w F s C D d c r):RX o r.C r.A r.ps r.ls:=by
 have m:∀(x:Ld),(x.sum.size:Int)=o->∀l∈w++[x],(l.sum.size:Int)=o:=fun x n l g=>by
  rcases List.mem_append.1 g with g|g
  .exact h.gu l g
  .rw[List.mem_singleton.1 g];exact n
 rcases i with⟨rfl,q,g,J,G,H,i,rfl⟩|⟨_,q,_,rfl⟩|⟨_,_,rfl⟩|⟨_,q,_,_,rfl⟩|⟨_,_,rfl⟩|⟨_,_,rfl⟩|⟨_,_,_,rfl⟩
 .rcases i with⟨_,_,_,_,rfl,rfl⟩|⟨_,_,_,rfl,rfl⟩
  .exact⟨h.b1,h.un,h.rs,h.fw,m _ (EF _ _ _ t.w1)⟩
  .have v:∀k∈CZ u ⟨AV d c o,a+1,d,c⟩,k=⟨AV d c o,a+1,d,c⟩\/k∈u:=fun k f=>List.mem_cons.1 ((DS u _).mem_iff.1 f);have I:=t.ax;refine⟨fun k f=> ?_,fun x n y i e=> ?_,fun k f r B=> ?_,h.fw,m _ (EF _ _ _ t.w1)⟩
   .rcases v k f with rfl|f
    .exact⟨by show 1<=a+1;omega,Int.le_refl _⟩
    .have:=h.b1 k f;exact⟨this.1,by show _<=a+1;omega⟩
   .rcases v x n with rfl|n<;>rcases v y i with rfl|i
    .rfl
    .have:=(h.b1 y i).2;have E:a+1=y.born:=e;omega
    .have:=(h.b1 x n).2;have E:x.born=a+1:=e;omega
    .exact h.un x n y i e
   .rcases v k f with rfl|f
    .exact IZ t.bn (q r B)
    .exact h.rs k f r B
 .refine⟨h.b1,h.un,h.rs,fun p A=> ?_,h.gu⟩;have b:p∈Bh z C s:=A;unfold Bh at b;rcases List.mem_append.1 b with b|b
  .rcases List.mem_append.1 b with b|b
   .exact h.fw p (List.mem_filter.1 b).1
   .rw[List.mem_singleton.1 b];exact IZ t.bn q
  .exact h.fw p (List.mem_filter.1 b).1
 .exact⟨h.b1,h.un,h.rs,fun p A=>h.fw p (List.mem_filter.1 A).1,h.gu⟩
 .exact⟨h.b1,h.un,h.rs,h.fw,m _ (IZ t.bn q)⟩
 .exact⟨h.b1,h.un,h.rs,h.fw,fun l g=>h.gu l (List.mem_filter.1 g).1⟩
 .exact⟨h.b1,h.un,h.rs,h.fw,fun l g=>h.gu l (List.mem_filter.1 g).1⟩
 .exact⟨fun k f=>h.b1 k (List.mem_filter.1 f).1,fun x n y i e=>h.un x (List.mem_filter.1 n).1 y (List.mem_filter.1 i).1 e,fun k f=>h.rs k (List.mem_filter.1 f).1,h.fw,h.gu⟩
theorem BS.rx{a:Int}:∀{xs:Zl} {r r':Rs},BS a r xs r'->r.ok a->RX a r.C r.A r.ps r.ls->RX a r'.C r'.A r'.ps r'.ls
 |[],r,r',h,_,hx=>by obtain rfl:r'=r:=h;exact hx
 |x::xs,r,r',h,hr,hx=>by obtain⟨d,b,c⟩:=h;exact BS.rx c (b.ok hr) (hx.step hr b.2)
def UR.and(u r:UR):UR:=⟨r.A,r.L,r.Q,r.P,r.ro,r.G,r.ms,u.ds++r.ds⟩
def EH(v:Vd):UR:=⟨v.A,v.L,v.Q,v.P,v.ro,v.G,v.ms,[]⟩
def Mr(ps:List Pd)(ls:List Ld)(births:Int)(u r:UR):Prop:=UTo u.A ps ls births u.L u.Q u.P u.ro u.G u.ms r
structure ID (wd births:Int) (ps:List Pd) (ls:List Ld) (free:Nat) (u:UR):Prop where
 ok:UOk wd births u.A ps ls u.L u.ro u.G u.ms
 un:∀x∈u.A,∀y∈u.A,x.born=y.born->x=y
 ql:u.G.length<=23200
 ml:u.ms.length<=600
 dl:u.ds.length+u.A.length<=600
 df:u.ds.length<=free
theorem Kg(h:DM v r):ID v.wd v.C v.ps v.ls (4000 -(v.ss++v.D).length) (EH v):=by
 have a:=h.fe;have c:RX v.wd r.C r.A r.ps r.ls:=h.run.rx (Du h.wd.1 h.wd.2) ⟨by simp[r0],by simp[r0],by simp[r0],by simp[r0],by simp[r0]⟩;obtain⟨⟨_,_,_,e⟩,f,g,i⟩:=h.same;rw[e,f,g,i]at c;have b:=h.round;have l:=b.dy.nq;have j:=b.dy.nm
 refine⟨⟨a.bn,fun k d=>(c.b1 k d).1,fun k d=>⟨a.dv k d,c.rs k d⟩,a.np,a.nl,c.fw,c.gu,a.ax,a.ai,?_,b.js,b.ju,b.dy.q,b.dy.m,by show v.G.length<=_;omega,by show v.ms.length<=_;omega⟩,c.un,by show v.G.length<=_;omega,by show v.ms.length<=_;omega,by show 0+v.A.length<=600;have:=a.bn.len;omega,Nat.zero_le _⟩;rcases b.L with h|h|h
 .exact .inl h.1
 .exact .inr (.inl h.1)
 .exact .inr (.inr h.1)
theorem SC{e:Int}{i:List Ld}(m:∀p∈j,(p.sum.size:Int)=e)(k:∀l∈i,(l.sum.size:Int)=e):∀x∈DH j i,(x.size:Int)=e:=by
 have b:∀(f c:Zl),(∀x∈f,(x.size:Int)=e)->(∀x∈c,(x.size:Int)=e)->∀x∈f.foldl BF c,(x.size:Int)=e:=by
  intro f;induction f with
  |nil=>intro c _ h x a;exact h x a
  |cons y ys ih=>
   intro c d g;refine ih _ (fun x a=>d x (List.mem_cons_of_mem _ a)) (fun x a=> ?_);unfold BF at a;split at a
   .exact g x a
   .rcases List.mem_append.1 a with a|a
    .exact g x a
    .rw[List.mem_singleton.1 a];exact d y Yu
 unfold DH;refine b _ _ (fun x a=> ?_) (b _ _ (fun x a=> ?_) Yu)
 .obtain⟨l,d,rfl⟩:=List.mem_map.1 a;exact k l d
 .obtain⟨p,d,rfl⟩:=List.mem_map.1 a;exact m p d
theorem ID.step{g:Int}{r:UR}(h:ID g c q o free u)(B:Mr q o c u r)(M:u.ro≠1000000000)(F:r.G.length<=23200)(E:r.ms.length<=600)(n:r.ds=[]\/u.ds.length<free):ID g c q o free (u.and r):=by
 have a:=UTo.sub B;have f:=h.ok.r1;have d:=h.ok.r0;have hlen:=a.length_le;have C:Em g r.A:=by have k:=h.ok.ok;exact⟨k.nd.sublist (a.map _),k.dh.sublist (a.map _),fun x b=>k.sz x (a.subset b),fun x b=>k.B x (a.subset b),Zm hlen k.len,k.w8⟩
 have D:∀x∈r.A,∀y∈r.A,x.born=y.born->x=y:=fun x b y H e=>h.un x (a.subset b) y (a.subset H) e;have m:∀k∈r.A,1<=k.born:=fun k l=>h.ok.born k (a.subset l);have hrefs:∀k∈r.A,k.B.length<=30/\∀r∈k.B,(r.size:Int)=g:=fun k l=>h.ok.B k (a.subset l)
 have i:∀(v:r.L=0\/r.L=1\/r.L=2) (j:0<=r.ro) (A:r.ro<=1000000000) (z:∀x∈r.G,(x.size:Int)=g) (t:∀x∈r.ms,(x.size:Int)=g),(r.ds.length+r.A.length<=u.A.length)->r.ds.length<=1->ID g c q o free (u.and r):=fun v j A z t N I=>by
  have K:=h.dl;have J:=h.df;refine⟨⟨C,m,hrefs,h.ok.pl,h.ok.ll,h.ok.fw,h.ok.gu,h.ok.b0,h.ok.b1,v,j,A,z,t,by show r.G.length<=_;omega,by show r.ms.length<=_;omega⟩,D,F,E,?_,?_⟩
  .show(u.ds++r.ds).length+r.A.length<=600;rw[List.length_append];omega
  .show(u.ds++r.ds).length<=free;rw[List.length_append];rcases n with n|n
   .rw[n,List.length_nil];omega
   .omega
 cases B with
 |begin j=>exact i (.inr (.inl rfl)) d f (SC h.ok.fw h.ok.gu) h.ok.iu Yu Yu
 |mark j s q0 qs' ms' hqq hmm=>
  have w:∀x∈q0,(x.size:Int)=g:=fun x b=>h.ok.kb x (by rw[hqq];exact List.mem_cons_of_mem _ b);have G:(s.size:Int)=g:=h.ok.kb s (by rw[hqq];simp);rcases hmm with⟨_,rfl,rfl⟩|⟨k,l,_,_,rfl,rfl⟩
  .exact i h.ok.jz d f w h.ok.iu Yu Yu
  .refine i h.ok.jz d f (fun x b=> ?_) (fun x b=> ?_) Yu Yu
   .rcases List.mem_append.1 b with b|b
    .exact w x b
    .exact(h.ok.B k l).2 x (List.mem_filter.1 b).1
   .rcases List.mem_append.1 b with b|b
    .exact h.ok.iu x b
    .rw[List.mem_singleton.1 b];exact G
 |rest j hqq hn=>exact i (.inl rfl) (by show 0<=u.ro+1;omega) (by show u.ro+1<=_;omega) Yu Yu Yu Yu
 |ag j hqq x b l=>exact i (.inr (.inr rfl)) d f Yu h.ok.iu Yu Yu
 |drop j hqq x b hmm l=>
  refine i (.inr (.inr rfl)) d f Yu h.ok.iu ?_ Yu;have L:(CK u.A x.sum).length<u.A.length:=by unfold CK;exact List.length_filter_lt_length_iff_exists.2 ⟨x,b.1,Yu⟩
  show 1+(CK u.A x.sum).length<=u.A.length;omega
theorem UTo.some{ps:List Pd}{c:List Ld}{a:Int}{r:UR}(h:Mr ps c a u r)(b:r.ds≠[]):r.G=[]/\r.ms=u.ms/\∃s,r.ds=[s]:=by
 cases h with
 |begin h0=>exact absurd rfl b
 |mark h0 s q0 qs' ms' hqq hmm=>exact absurd rfl b
 |rest h0 hqq hn=>exact absurd rfl b
 |ag h0 hqq x hx hk=>exact absurd rfl b
 |drop h0 hqq x hx hmm hk=>exact⟨rfl,rfl,_,rfl⟩
inductive ClTo (births:Int) (ps:List Pd) (ls:List Ld) (free units:Nat):Nat->UR->Option (UR×Nat)->Prop
 |fin (n:Nat) (u:UR) (h:units<=n):ClTo births ps ls free units n u (some (u,n))
 |old (n:Nat) (u:UR) (h:n<units) (hr:u.ro=1000000000):ClTo births ps ls free units n u none
 |full (n:Nat) (u r:UR) (h:n<units) (hr:u.ro≠1000000000) (ht:Mr ps ls births u r) (hd:r.ds≠[]) (hf:¬u.ds.length<free):ClTo births ps ls free units n u (some (u,n))
 |long (n:Nat) (u r:UR) (h:n<units) (hr:u.ro≠1000000000) (ht:Mr ps ls births u r) (hl:23200<r.G.length\/600<r.ms.length):ClTo births ps ls free units n u none
 |step (n:Nat) (u r:UR) (o:Option (UR×Nat)) (h:n<units) (hr:u.ro≠1000000000) (ht:Mr ps ls births u r) (hq:r.G.length<=23200) (hm:r.ms.length<=600) (hf:r.ds=[]\/u.ds.length<free) (hs:ClTo births ps ls free units (n+1) (u.and r) o):ClTo births ps ls free units n u o
theorem ClTo.de{q:Int}{f:Nat}{m:Option (UR×Nat)}(s:ClTo c l k free f n u m):∀{j},ID q c l k free u->ClTo c l k free f n u j->m=j:=by
 have one:∀{u r1 r2:UR},ID q c l k free u->Mr l k c u r1->Mr l k c u r2->r1=r2:=fun d a b=>UTo.de d.un d.ok.ok.nd a b;induction s with
 |fin n u h=>intro j d g;cases g<;>first|rfl|omega
 |old n u h hr=>intro j d g;cases g<;>first|rfl|omega|contradiction
 |full n u r h hr ht hd i=>
  intro j d g;cases g with
  |fin _ _ h'=>omega
  |old _ _ h' hr'=>exact absurd hr' hr
  |full _ _ r' h' hr' ht' hd' e=>rfl
  |long _ _ r' h' hr' ht' hl'=>cases one d ht ht';have:=UTo.some ht hd;have:=d.ml;simp_all;omega
  |step _ _ r' _ h' hr' ht' hq' hm' e hs'=>
   cases one d ht ht';rcases e with e|e
   .exact absurd e hd
   .exact absurd e i
 |long n u r h hr ht hl=>
  intro j d g;cases g with
  |fin _ _ h'=>omega
  |old _ _ h' hr'=>rfl
  |full _ _ r' h' hr' ht' hd' e=>cases one d ht ht';have:=UTo.some ht hd';have:=d.ml;simp_all;omega
  |long _ _ r' h' hr' ht' hl'=>rfl
  |step _ _ r' _ h' hr' ht' hq' hm' e hs'=>cases one d ht ht';omega
 |step n u r o h hr ht hq hm i hs ih=>
  intro j d g;cases g with
  |fin _ _ h'=>omega
  |old _ _ h' hr'=>exact absurd hr' hr
  |full _ _ r' h' hr' ht' hd' e=>
   cases one d ht ht';rcases i with i|i
   .exact absurd i hd'
   .exact absurd i e
  |long _ _ r' h' hr' ht' hl'=>cases one d ht ht';omega
  |step _ _ r' _ h' hr' ht' hq' hm' e hs'=>cases one d ht ht';exact ih (d.step ht hr hq hm i) hs'
def BA:Zj:=[Ze,Ze,Zb,Zb,Ze,Ze,Ze,Ze,Zb,Zb,Zb,Ze,Zb,Zb,Ze,Ze,Ze]
end Go.Proofs.YtoglnpagihdhpaaGreatDoor
