import Derived.Test.YtmjlkgpekcnacaaGreatX15
set_option maxRecDepth 100000
set_option maxHeartbeats 16000000
namespace Go.Proofs.YtmjlkgpekcnacaaGreat
open Go.ChangeShapes Go.WideShapes Go.ChangeAt Go.RowKit _root_.Go.Proofs.Tryz
variable{X d w:Zh}{l g:Zk}{n b1 b2 b3 b4 b5 f:Nat}{P L S U T Q M:Value}{a:Va}{v:Vd}{c:Zj}{e:Ed}
theorem AY.jg{lo:Nat}{z:Nat}{a:Zj}{d:List Kd}{x:List Pd}{v:List Ld}(h:AY X lo (.slice l n z) P L a d x v):∀A,l=some A->KY X A d:=fun A r i k b y f=>by
 subst r;have s:=(Zw b).1;have t:i<a.length:=by rw[h.len];exact s
 have j:=Zv t;have e:=h.B i k _ b j;have u:(d.zip a)[i]?=some (k,a[i]):=List.getElem?_zip_eq_some.2 ⟨b,j⟩;have m:=Cd Ce u (show 3<4 by decide);rcases h.aj.2 with⟨c,_⟩|⟨g,cap,B,c,_⟩
 .cases c
 cases c;have o:=h.aj.cellAt (i *4+3) Yv;rw[Nat.zero_add,o,m]at f;have q:a[i]=.slice none k.B.length y:=by injection f
 rw[q]at e;exact Dy e rfl
structure Kj (w:Zh) (a:Va) (v:Vd):Prop where
 s:EC a.Z v.ss.length a.j
 t:EC a.X v.A.length a.Y
 q:EC a.g v.F.length a.qc
 m:EC a.i v.ms.length a.mc
 k:∀A,a.T=some A->KY w A v.ks
 p:a.L=none->a.Q=0
 l:a.J=none->a.P=0
 so:∃rs,AY w 0 (.slice a.T v.ks.length a.U) (.slice a.L v.ps.length a.Q) (.slice a.J v.ls.length a.P) rs v.ks v.ps v.ls
def Lo(v:Vd)(L:Nat)(X:Zh)(cs:Zj):Prop:=
 ∃a:Va,cs=Bh v (.slice a.Z v.ss.length a.j) (.slice a.X v.A.length a.Y) (.slice a.T v.ks.length a.U) (.slice a.L v.ps.length a.Q) (.slice a.J v.ls.length a.P) (.slice a.g v.F.length a.qc) (.slice a.i v.ms.length a.mc)/\CF X L a v/\Kj X a v
theorem Pr{i k o m c e:Zk}{j l q d h:Nat}{b:Zj}(t:Ao X b1 (.slice i v.ss.length j) v.ss)(u:Ao X b2 (.slice k v.A.length l) v.A)(a:AY X b3 (.slice o v.ks.length q) (.slice m v.ps.length n) (.slice c v.ls.length d) b v.ks v.ps v.ls)(s:Ao X b4 (.slice g v.F.length h) v.F)(r:Ao X b5 (.slice e v.ms.length f) v.ms):
 Lo v X.heap.size X (Bh v (.slice i v.ss.length j) (.slice k v.A.length l) (.slice o v.ks.length q) (.slice m v.ps.length n) (.slice c v.ls.length d) (.slice g v.F.length h) (.slice e v.ms.length f)):=
 ⟨⟨i,j,k,l,o,q,m,n,c,d,g,h,e,f⟩,rfl,⟨t.ft,u.ft,a.get,s.ft,r.ft⟩,⟨t.cap,u.cap,s.cap,r.cap,a.jg,Dy a.pins,Dy a.aq,b,a.mono (Nat.zero_le _)⟩⟩
theorem AD.iu{a:Nat}(h:AD X a S U T P L Q M c v):Lo v X.heap.size X (Bh v S U T P L Q M):=by obtain⟨s,u,b,q,m,_⟩:=h;obtain⟨y,z,rfl,d⟩:=s.row;obtain⟨C,D,rfl,e⟩:=u.row;obtain⟨A,B,o,r,j,k,rfl,rfl,rfl,f⟩:=b.rows;obtain⟨t,x,rfl,g⟩:=q.row;obtain⟨l,n,rfl,i⟩:=m.row;exact Pr s u b q m
theorem AD.iw{a:Nat}{k:Zj}(h:AD d a S U T P L Q M k v)(m:n<=a)(f:Zz d X):∀V c,(∀b∈V,b<n)->Tn V X c->Lo v c.heap.size c (Bh v S U T P L Q M):=fun V c i g=>by refine(h.stays (((Tn.of (V:=[]) f).mono Yu).trans g) (fun b j e=> ?_)).iu;have l:=h.lo b e;have:=i b j;omega
theorem VL{r:Rs}{n q x t j:Zk}{o s y u i c m k:Nat}{b d:Zl}{F:Zj}(C:v.wd=v.O)(J:Ao X b1 (.slice n v.ss.length o) v.ss)(K:Ao X b2 (.slice q f s) b)(D:b=v.A++[e.cj v.wd])(E:f=b.length)(B:AY X b3 (.slice x r.ks.length y) (.slice t r.ps.length u) (.slice g r.ls.length i) F r.ks r.ps r.ls)(I:Ao X b4 (.slice l c m) d)(A:d=shQ v.K r.ks v.F v.ms (e.held r))(z:c=d.length)(H:Ao X b5 (.slice j v.ms.length k) v.ms):
 Lo (doV v e r) X.heap.size X [Zg v.wd,Zg v.lim,.slice n v.ss.length o,.slice q f s,Zg v.wd,Zg r.D,Zg r.G,Zg r.C,.slice x r.ks.length y,.slice t r.ps.length u,.slice g r.ls.length i,Zg v.K,.slice l c m,.slice j v.ms.length k,Zg v.R,Zg v.S,Zg v.ro]:=by
 subst E z;subst D A;obtain⟨a,h,G⟩:=Pr (v:=doV v e r) (b1:=b1) (b2:=b2) (b3:=b3) (b4:=b4) (b5:=b5) J K B I H;refine⟨a,?_,G⟩;rw[<-h];unfold Bh doV;simp only[<-C]
def VM(v:Vd)(e:Ed)(w:Zh)(o:Ending)(w':Zh):Prop:=
 ∃d vs,Gx v e d/\o=.returned (.agg (dL d vs).toArray)/\(∀V X',(∀b∈V,b<w.heap.size)->Tn V w' X'->Lo d.v X'.heap.size X' vs)/\Zz w w'
theorem Jy{D:Zj}{d:Dd}(f:Aa X (w.heap.size+2) El/\Zz w X)(m:∀V a,(∀b∈V,b<w.heap.size+3)->Tn V X a->Lo d.v a.heap.size a c)(l:Gx v e d)(q:c.length=17/\∀u∈c,u.oneCell'=true)(j:D=dL d c):
 (D.length=22/\∀u∈D,u.oneCell'=true)/\X.there (w.heap.size+2) 0 D.toArray.size/\Aa (X.setCells (w.heap.size+2) 0 D.toArray.toList) (w.heap.size+2) D/\VM v e w (.returned (.agg D.toArray)) (X.setCells (w.heap.size+2) 0 D.toArray.toList):=by
 have g:D.length=22/\∀u∈D,u.oneCell'=true:=by rw[j];exact Jt q
 have k:=AL (w.heap.size+2) D 0 X;refine⟨g,?_,f.1.au D (by rw[g.1];rfl),d,c,l,by rw[j],fun V a o n=>m ((w.heap.size+2)::V) a (fun b i=> ?_) ((k.mono Yu).trans (n.mono (by simp;intro b i;exact .inr i))),f.2.trans (k.below f.2.size Yu)⟩
 .rw[show D.toArray.size=22 from by rw[List.size_toArray];exact g.1];exact f.1.there
 .rcases List.mem_cons.1 i with h|h
  .omega
  .have:=o b h;omega
theorem Kj.cap(h:Kj w a v):Tj a v:=⟨h.s.2,h.t.2,h.m.1⟩
theorem Kj.below(h:Kj w a v)(g:CF w w.heap.size a v)(c:Zz w d):Kj d a v:=
 ⟨h.s,h.t,h.q,h.m,(fun A e=>by have f:=h.k A e;have b:=g.N.k;rw[e]at b;exact f.af b c),h.p,h.l,h.so.imp (fun _ h=>h.below c)⟩
theorem Kj.cp(h:Kj w a v)(f:CF w w.heap.size a v)(b:Fw v)(g:Cp v):Jv w a v:=by
 obtain⟨r,d⟩:=g;have c:=Ll d;have i:v.ks.length<=600:=by have:=c.dl;unfold DZ at this;simp at this;omega
 exact⟨f,h.s.2,h.t.2,h.q,h.m,h.k,h.p,h.l,b.s,b.t,by have:=b.r.q;omega,by have:=b.r.m;omega,i,c.ok.pl,c.ok.ll,fun k e=>(c.ok.B k e).1⟩
end Go.Proofs.YtmjlkgpekcnacaaGreat
