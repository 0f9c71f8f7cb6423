import Derived.Test.YtdgblkklkaklhaaGreatDoorX32
import Derived.Laws.Tables
set_option maxRecDepth 100000
set_option maxHeartbeats 16000000
namespace Go.Proofs.YtdgblkklkaklhaaGreatDoor
open Go.ChangeShapes Go.WideShapes Go.ChangeAt Go.RowKit _root_.Go.Proofs.Tryz
structure Ed where
 kd:Int
 s:Zi
 nm:Zi
 num:Int
 tx:Zi
 rf:Zl
def Ed.ok(e:Ed)(wd:Int):Bool:=Cg e.kd e.s e.nm e.num e.tx e.rf wd
def Ed.bt(e:Ed)(wd:Int):Zi:=Cv e.kd e.s e.nm e.num e.tx e.rf wd
def Ed.no(e:Ed)(v:Vd)(c:Int)(a b:Zi):Prop:=Fu v.wd v.now v.given v.ae v.ks v.ps v.ls e.kd e.s e.nm e.num e.tx e.rf c a b
def Ed.yes(e:Ed)(v:Vd)(r:Rs):Prop:=DP v.wd v.now v.given v.ae v.ks v.ps v.ls e.kd e.s e.nm e.num e.tx e.rf r
def Ed.fw(e:Ed)(v:Vd)(r:Rs):Bool:=decide (e.kd=1)&&decide (v.ak<ZL v.wd r.ks)
def Ed.gw(e:Ed)(v:Vd)(r:Rs):Prop:=e.fw v r=true
def Ed.held(e:Ed)(r:Rs):Zi:=if e.kd=1 then r.sm else e.s
structure Dd where
 c:Int
 v:Vd
 s:Zi
 n:Int
 a:Zi
 b:Zi
def Fz(c:Int)(v:Vd)(a b:Zi):Dd:=⟨c,v,⟨#[]⟩,0,a,b⟩
noncomputable def doV (v:Vd) (e:Ed) (r:Rs):Vd:={v with tt:=v.tt++[e.bt v.wd],now:=r.now,given:=r.given,ae:=r.ae,ks:=r.ks,ps:=r.ps,ls:=r.ls,qs:=shQ v.ph r.ks v.qs v.ms (e.held r)}
noncomputable def dyes (v:Vd) (e:Ed) (r:Rs):Dd:=⟨0,doV v e r,r.sm,r.le,⟨#[]⟩,⟨#[]⟩⟩
def Hb(v:Vd)(e:Ed)(c:Int)(a b:Zi):Prop:=
 (e.ok v.wd=false/\c=1/\a=⟨#[]⟩/\b=⟨#[]⟩)∨(e.ok v.wd=true/\(e.no v c a b∨(a=⟨#[]⟩/\b=⟨#[]⟩/\∃r,e.yes v r/\((e.gw v r/\c=8)∨(¬e.gw v r/\v.ss.length+v.tt.length=4000/\c=9)))))
def Jt(v:Vd)(e:Ed)(r:Rs):Prop:=e.ok v.wd=true/\e.yes v r/\¬e.gw v r/\¬v.ss.length+v.tt.length=4000
def Hu(v:Vd)(e:Ed)(d:Dd):Prop:=(¬Ei v/\d=Fz 1 v0 ⟨#[]⟩ ⟨#[]⟩)∨(Ei v/\((∃c a b,Hb v e c a b/\d=Fz c v a b)∨∃r,Jt v e r/\d=dyes v e r))
theorem CM.dw{v:Vd}{r:Rs}(h:CM v r):FB v.wd v.now v.given v.ae v.ks v.ps v.ls:=by have a:FB v.wd r.now r.given r.ae r.ks r.ps r.ls:=h.run.ok (FX h.wd.1 h.wd.2);obtain⟨⟨_,b,c,d⟩,e,f,g⟩:=h.same;rw[b,c,d,e,f,g]at a;exact a
theorem Hb.code{v:Vd}{e:Ed}{c:Int}{a b:Zi}(h:Hb v e c a b):c≠0:=by
 rcases h with⟨_,h,_⟩|⟨_,h|⟨_,_,r,_,⟨_,h⟩|⟨_,_,h⟩⟩⟩
 ·omega
 ·have:=Fu.code h;omega
 ·omega
 ·omega
theorem Hb.cz{v:Vd}{r:Rs}(m:CM v r){e:Ed}{c j:Int}{a b g i:Zi}(h:Hb v e c a b)(k:Hb v e j g i):c=j/\a=g/\b=i:=by
 have f:=m.dw.bk.nd;rcases h with⟨d,rfl,rfl,rfl⟩|⟨d,h|⟨rfl,rfl,n,l,h⟩⟩<;>rcases k with⟨k1,rfl,rfl,rfl⟩|⟨k1,k|⟨rfl,rfl,r2,ky,k⟩⟩
 ·exact⟨rfl,rfl,rfl⟩
 ·rw[d]at k1;cases k1
 ·rw[d]at k1;cases k1
 ·rw[d]at k1;cases k1
 ·exact Fu.cz f h k
 ·exact(Fu.not f h ky).elim
 ·rw[d]at k1;cases k1
 ·exact(Fu.not f k l).elim
 ·obtain rfl:=DP.cz l ky;rcases h with⟨h,rfl⟩|⟨h,_,rfl⟩<;>rcases k with⟨k,rfl⟩|⟨k,_,rfl⟩
  ·exact⟨rfl,rfl,rfl⟩
  ·exact absurd h k
  ·exact absurd k h
  ·exact⟨rfl,rfl,rfl⟩
theorem Hb.not{v:Vd}{r:Rs}(g:CM v r){e:Ed}{c:Int}{a b:Zi}(h:Hb v e c a b){n:Rs}(k:Jt v e n):False:=by
 obtain⟨d,f,l,m⟩:=k;rcases h with⟨i,_⟩|⟨_,h|⟨_,_,o,j,h⟩⟩
 ·rw[i]at d;cases d
 ·exact Fu.not g.dw.bk.nd h f
 ·obtain rfl:=DP.cz j f;rcases h with⟨h,_⟩|⟨_,h,_⟩
  ·exact l h
  ·exact m h
theorem Hu.cz{v:Vd}{e:Ed}{d g:Dd}(h:Hu v e d)(k:Hu v e g):d=g:=by
 rcases h with⟨h,rfl⟩|⟨⟨r,h⟩,i⟩<;>rcases k with⟨k,rfl⟩|⟨k,kk⟩
 ·rfl
 ·exact absurd k h
 ·exact absurd ⟨r,h⟩ k
 ·rcases i with⟨c,a,b,f,rfl⟩|⟨j,f,rfl⟩<;>rcases kk with⟨c',a',b',k1,rfl⟩|⟨r2,k1,rfl⟩
  ·obtain⟨rfl,rfl,rfl⟩:=f.cz h k1;rfl
  ·exact(f.not h k1).elim
  ·exact(k1.not h f).elim
  ·rw[DP.cz f.2.1 k1.2.1]
theorem Ed.dx{e:Ed}{b:Int}(h:e.ok b=true):(e.bt b).size<=5000:=by
 obtain⟨_,_,p⟩:=Gg h;unfold Ed.bt Cv;rw[if_pos (show Cg e.kd e.s e.nm e.num e.tx e.rf b=true from h)];show(CR e.kd.toNat e.s e.nm e.num e.tx e.rf).toArray.size<=5000;have d:=p.sum;have f:=p.name;have g:(if e.kd.toNat=1 then BB e.tx e.rf else []).length<=3000:=by
  split
  ·next hk=>
   have a:=BA (p.dh hk);have c:=a.az;have i:=a.text;rw[BB,List.length_cons,List.length_append,Dl];simp only[Array.length_toList];have j:e.tx.data.size=e.tx.size:=rfl;omega
  ·simp
 rw[List.size_toArray];unfold CR BZ;simp only[List.length_append,List.length_cons,List.length_nil,Array.length_toList];have a:e.s.data.size=e.s.size:=rfl;have c:e.nm.data.size=e.nm.size:=rfl;omega
theorem Hu.fit{v:Vd}{e:Ed}{d:Dd}(h:Hu v e d)(i:Cr v):Cr d.v:=by
 rcases h with⟨_,rfl⟩|⟨⟨r,l⟩,⟨c,a,b,_,rfl⟩|⟨g,m,rfl⟩⟩
 ·exact OB
 ·exact i
 ·have j:=l.dw.step m.1 m.2.1;have p:=j.bk.len;have q:=j.np;have t:=j.nl;have u:=Ov j.dq;have n:=IG l.log;rw[List.length_append]at n;have w:=Ed.dx m.1;refine⟨i.s,?_,i.ss,?_,⟨by show g.ks.length<=_;omega,fun k o=>by have:=j.dq k o;omega,by show g.ps.length<=_;omega,by show g.ls.length<=_;omega⟩,⟨?_,i.r.m⟩,by show AF g.ks<=_;omega⟩
  ·show(v.tt++[e.bt v.wd]).length<=_;rw[List.length_append,List.length_singleton];omega
  ·intro s f;rcases List.mem_append.1 f with f|f
   ·exact i.tt s f
   ·rw[List.mem_singleton]at f;subst f;omega
  ·show(shQ v.ph g.ks v.qs v.ms (e.held g)).length<=_;have x:=l.round.fc.nq;unfold shQ;split
   ·rw[List.length_append,List.length_singleton];omega
   ·omega
def JZ(d:Dd)(S U T P L Q M:Value):Zj:=Zg d.c::(BS d.v S U T P L Q M++[.string d.s,Zg d.n,.string d.a,.string d.b])
def CN:Zj:=[Zf,Zf,Zf,Zc,Zc,Zf,Zf,Zf,Zf,Zc,Zc,Zc,Zf,Zc,Zc,Zf,Zf,Zf,Zd,Zf,Zd,Zd]
theorem cell_of_block{X W:Zh}{d:Nat}(h:X.heap[d]?=W.heap[d]?)(j:Nat):X.cell? (Ze d j)=W.cell? (Ze d j):=by simp[World.cell?,h]
theorem Aa.fy{w:Zh}{o:Nat}{t:TypeId}{l:Zj}(h:w.heap[o]?=some (.cells l.toArray t (0,0))):Aa w o l:=fun j v a=>by refine⟨?_,by simp[World.frozen?,h]⟩;simp[World.cell?,h];exact a
theorem Aa.dv{B:Nat}:∀(vs l1 l2 l3:Zj) (w:Zh),Aa w B (l1++(l2++l3))->vs.length=l2.length->Aa (w.setCells B l1.length vs) B (l1++(vs++l3))
 |[],l1,[],l3,w,h,_=>h
 |v::r,l1,u::l2,l3,w,h,hl=>by have a:=h.set l1.length v;rw[show(l1++(u::l2++l3)).set l1.length v=(l1++[v])++(l2++l3) by simp]at a;have b:=Aa.dv r (l1++[v]) l2 l3 _ a (by simpa using hl);rw[List.length_append,List.length_singleton,List.append_assoc,List.singleton_append,←List.cons_append]at b;exact b
 |[],_,_::_,_,_,_,h=>by simp at h
 |_::_,_,[],_,_,_,h=>by simp at h
theorem Aa.dz{w:Zh}{B:Nat}(a c d:Zj)(h:Aa w B (a++(c++d))):w.there B a.length c.length:=fun j e=>by have b:=h (a.length+j) _ (Zv (by simp;omega));exact⟨by rw[b.1];rfl,b.2⟩
theorem YD{X:Zh}{b:Nat}{u v:Value}(c:X.cell? (Ze b 0)=some u)(d:X.cell? (Ze b 1)=some v):X.rangeAt b 0 [u,v]:=fun j x a=>by
 match j with
 |0=>cases a;exact c
 |1=>cases a;exact d
 |_+2=>simp at a
theorem JI{X a c:Zh}{k b:Nat}{z:Value}{l cs i:Zj}(g:Aa X k (.int .i32 1::l))(h:Aa X b (z::i))(o:cs.length=(z::i).length)(m:k≠b)(f:a=X.setCells b 0 cs)(j:c=a.setCell (Ze k 0) (.int .i32 0)):
 a.cell? (Ze k 0)=some (.int .i32 1)/\a.frozen? ⟨k,0,none⟩=false/\Aa c b cs/\Tn [b,k] X c:=by
 have e:Tn [b] X a:=by rw[f];exact AP _ _ _ _
 have d:Tn [k] a c:=by rw[j];exact Tn.set _ _ _ _ (by simp)
 have r:Aa a b cs:=by rw[f];exact h.ba cs o
 have p:=Aa.same g (e.block _ g.lt (by simp;exact m));obtain⟨q,n⟩:=p 0 _ rfl;exact⟨q,n,Aa.same r (d.block _ (Zr h.lt e.size) (by simp;omega)),(e.mono (by simp)).trans (d.mono (by simp))⟩
theorem AL.apart{w:Zh}{base:Nat}{S U T P L Q M:Value}{f:Zj}{v:Vd}(y:Ao w base S v.ss)(z:Ao w base U v.tt)(l:∀g,Ak S=some g->Ak U≠some g)(h:AO w base T P L f v.ks v.ps v.ls)(x:Ao w base Q v.qs)(t:Ao w base M v.ms)(k:∀g,Ak Q=some g->Ak M≠some g)
 (n:∀g,Ak S=some g∨Ak U=some g->g∉Bb T P L f) (p:∀g,Ak Q=some g∨Ak M=some g->g∉Bb T P L f) (r:∀g i,Ak S=some g∨Ak U=some g->Ak Q=some i∨Ak M=some i->g≠i):AL w base S U T P L Q M f v:=by
 refine⟨y,z,h,x,t,?_⟩;have j:=h.nd;rw[Fh]at j;unfold Cx;generalize Bb T P L f=B at *
 generalize Ak S=s at *
 generalize Ak U=u at *
 generalize Ak Q=q at *
 generalize Ak M=m at *
 have one:∀o:Option Nat,o.toList.Nodup:=fun o=>by cases o<;>simp
 simp only[List.nodup_append,List.mem_append,Option.mem_toList];refine⟨⟨one _,one _,fun a d b c e=>l a d (e▸c)⟩,⟨j,⟨one _,one _,fun a d b c e=>k a d (e▸c)⟩,fun a d b c e=>p b c (e▸d)⟩,fun a d b c e=> ?_⟩;rcases c with c|c
 ·exact n a d (e▸c)
 ·exact r a b d c e
theorem Qi{V:List Nat}{a b c:Zh}(d:Tn [] a b)(e:Tn V b c):Tn V a c:=(d.mono (by simp)).trans e
def Li(v:Vd)(et:Zi)(n:Nat)(X:Zh)(sa:Zk)(sn sc:Nat)(ua:Zk)(un uc:Nat)(c:Int):Prop:=
 (v.ss.length+v.tt.length=4000/\(c==(0:Int))=false)∨(¬v.ss.length+v.tt.length=4000/\c=0/\sn=v.ss.length/\un=(v.tt++[et]).length/\Ao X n (.slice sa sn sc) v.ss/\Ao X n (.slice ua un uc) (v.tt++[et])/\∀g,Ak (.slice sa sn sc)=some g->Ak (.slice ua un uc)≠some g)
theorem TL{b X:Zh}{v:Vd}{q:Zi}{n a:Nat}{d:Zk}{f e:Nat}{i:Zk}{k j:Nat}{c:Int}(A:Aa X a [Zc,Zc])(h:Zz b X)(z:b.heap.size<=a)(B:a<n)(r:b.heap.size<=n)(m:Li v q n X d f e i k j c):
 Hid (Aa (X.setCells a 0 [.slice d f e,.slice i k j]) a [.slice d f e,.slice i k j]/\b.heap.size<=a/\Zz b (X.setCells a 0 [.slice d f e,.slice i k j])/\Li v q b.heap.size (X.setCells a 0 [.slice d f e,.slice i k j]) d f e i k j c):=by
 have t:=AP a [.slice d f e,.slice i k j] 0 X;refine⟨A.ba _ rfl,z,h.trans (t.below h.size (by simp;omega)),?_⟩;rcases m with m|⟨s,u,w,x,o,p,y⟩
 ·exact .inl m
 ·exact .inr ⟨s,u,w,x,(o.mono r).an t (fun g l=>by have:=(o.bj l).1;simp;omega),(p.mono r).an t (fun g l=>by have:=(p.bj l).1;simp;omega),y⟩
theorem WS{k a:Zh}{v:Vd}{m:Zi}{n:Nat}{d:Zk}{f e:Nat}{g:Zk}{j i:Nat}{c:Int}(h:Zz k a)(o:k.heap.size<=n)(l:Li v m n a d f e g j i c):
 Hid (Aa ((a.alloc (.cells #[Zc,Zc] 35)).setCells a.heap.size 0 [.slice d f e,.slice g j i]) a.heap.size [.slice d f e,.slice g j i]/\k.heap.size<=a.heap.size/\Zz k ((a.alloc (.cells #[Zc,Zc] 35)).setCells a.heap.size 0 [.slice d f e,.slice g j i])/\Li v m k.heap.size ((a.alloc (.cells #[Zc,Zc] 35)).setCells a.heap.size 0 [.slice d f e,.slice g j i]) d f e g j i c):=by
 obtain⟨x,b,_⟩:=boxed (X:=a) (cs:=[.slice d f e,.slice g j i]) (z:=[Zc,Zc]) (T:=35) rfl;refine⟨x,h.size,h.trans (b.mono h.size),?_⟩;rcases l with l|⟨p,q,r,s,t,u,w⟩
 ·exact .inl l
 ·exact .inr ⟨p,q,r,s,(t.mono o).below b,(u.mono o).below b,w⟩
theorem OC{a:Zi}(h:¬a=⟨#[]⟩):a.toList.isEmpty=false:=by
 cases e:a.toList with
 |nil=>exact absurd (toList_inj (b:=⟨#[]⟩) (by rw[e];simp)) h
 |cons x l=>rfl
theorem OD(b:Nat)(p q:Zi)(w:Zh)(d:w.cell? (Ze b 0)=some (.string p))(e:w.cell? (Ze b 1)=some (.string q)):
 Calls prog 106 #[Za b 2 2] w fun o c=>o=.returned (.string (if p=⟨#[]⟩then q else p))/\c=w:=by
 go_enter func106,ntmps106;go_wp2
 go_loop [8] (fun i=>i=Zg 0∨(i=Zg 1/\p=⟨#[]⟩)∨(i=Zg 2/\p=⟨#[]⟩/\q=⟨#[]⟩)) (fun i=>2 -(intOf i).toNat)
 case atStart=>exact .inl rfl
 case round=>
  rcases hrel with rfl|⟨rfl,rfl⟩|⟨rfl,rfl,rfl⟩
  ·by_cases hp:p=⟨#[]⟩
   ·subst hp;go_wp2;exact⟨by simp,by simp[intOf]⟩
   ·have a:=OC hp;go_wp2;go_ret;simp
  ·by_cases hq:q=⟨#[]⟩
   ·subst hq;go_wp2;exact⟨by simp,by simp[intOf]⟩
   ·have a:=OC hq;go_wp2;go_ret;simp
  ·go_wp2;go_ret;simp
def dL(d:Dd)(vs:Zj):Zj:=Zg d.c::(vs++[.string d.s,Zg d.n,.string d.a,.string d.b])
theorem JJ{X:Zh}{b:Nat}{d:Dd}{vs:Zj}(h:Aa X b (dL d vs))(a:vs.length=17):X.cell? (Ze b 0)=some (Zg d.c)/\X.cell? (Ze b 18)=some (.string d.s)/\X.cell? (Ze b 19)=some (Zg d.n)/\X.cell? (Ze b 20)=some (.string d.a)/\X.cell? (Ze b 21)=some (.string d.b)/\X.rangeAt b 1 vs:=by
 have e:∀j u,[Value.string d.s,Zg d.n,.string d.a,.string d.b][j]?=some u->X.cell? (Ze b (18+j))=some u:=fun j u c=>(h (18+j) u (by
  unfold dL;rw[show 18+j=(17+j)+1 by omega,List.getElem?_cons_succ,List.getElem?_append_right (by omega),a,show 17+j -17=j by omega];exact c)).1
 exact⟨(h 0 _ rfl).1,e 0 _ rfl,e 1 _ rfl,e 2 _ rfl,e 3 _ rfl,Aa.fp [Zg d.c] vs _ h⟩
theorem Ju{d:Dd}{vs:Zj}(h:vs.length=17/\∀u∈vs,u.oneCell'=true):(dL d vs).length=22/\∀u∈dL d vs,u.oneCell'=true:=by
 refine⟨by simp[dL,h.1],fun u a=> ?_⟩;simp only[dL,List.mem_cons,List.mem_append,List.not_mem_nil,or_false]at a;rcases a with rfl|a|rfl|rfl|rfl|rfl
 ·rfl
 ·exact h.2 u a
 ·rfl
 ·rfl
 ·rfl
 ·rfl
theorem Aah{l:Nat}{R:Nat->Zh->Zj->Prop}{O:Nat->Nat->Zh->Zj->Prop}{M:Nat->Nat->Zh->Zj->Nat->Prop}(d:Dd)(h:Iq 17 l 9 10 R O M)(de:∀lo N X vs,O lo N X vs->lo<=X.heap.size):
 Iq 22 l 8 11 (fun L X b=>∃vs,b=dL d vs/\R L X vs) (fun lo N X b=>∃vs,b=dL d vs/\O lo N X vs) (fun lo N X b K=>∃vs,b=dL d vs/\M lo N X vs K):=by
 refine⟨?_,?_,?_,?_,?_,?_,?_,?_⟩
 ·rintro X b ds ⟨vs,rfl,a⟩ ⟨j,rfl,r⟩;have g:=(h.dy _ _ _ a).1;have t:=(h.dy _ _ _ r).1;obtain⟨W,f⟩:∃W,W=(X.alloc (.cells (dL d vs).toArray 45)).alloc (.cells (dL d j).toArray 45):=⟨_,rfl⟩;have c:=(AW f).1;have B:=(AW f).2.2.1;have C:=(AW f).2.2.2;have zW:=(AW f).2.1;obtain⟨a0,F,G,H,I,J⟩:=JJ B g;obtain⟨b0,P,Q,S,T,U⟩:=JJ C t;have x:Hid (vs.length=17/\j.length=17):=⟨g,t⟩
  have D:Hid (∀Y,Zz W Y->(Y.cell? (Ze (X.heap.size) 18)=some (.string d.s)/\Y.cell? (Ze (X.heap.size) 19)=some (Zg d.n)/\Y.cell? (Ze (X.heap.size) 20)=some (.string d.a)/\Y.cell? (Ze (X.heap.size) 21)=some (.string d.b))/\Y.cell? (Ze (X.heap.size+1) 18)=some (.string d.s)/\Y.cell? (Ze (X.heap.size+1) 19)=some (Zg d.n)/\Y.cell? (Ze (X.heap.size+1) 20)=some (.string d.a)/\Y.cell? (Ze (X.heap.size+1) 21)=some (.string d.b)):=fun Y Z=>by
   obtain⟨_,p1,p2,p3,p4,_⟩:=JJ (d:=d) (vs:=vs) (Aa.below (v:=Zg d.c) B Z) g;obtain⟨_,q1,q2,q3,q4,_⟩:=JJ (d:=d) (vs:=j) (Aa.below (v:=Zg d.c) C Z) t;exact⟨⟨p1,p2,p3,p4⟩,q1,q2,q3,q4⟩
  have n:=Yx (Zb J U);have s:=Yx (h.eq W vs j (h.dd _ _ _ _ (h.dj _ _ _ _ a c) c.size) (h.dd _ _ _ _ (h.dj _ _ _ _ r c) c.size));have m:=Yx c;have o:=Yx f;clear f B C a r h g t c J U F G H I P Q S T;generalize dL d vs=p at *
  generalize dL d j=q at *
  go_enter func8,ntmps8;go_upto_region 1 with fail;rw[←o.o];clear o;go_wp2_with (first
   |refine wpList_load_mid rfl 43 _ rfl X.heap.size 1 rfl vs _ n.o.1 underlying43 rfl (by rw[x.o.1];kernel_rfl) ?_
   |refine wpList_load_mid rfl 43 _ rfl (X.heap.size+1) 1 rfl j _ n.o.2 underlying43 rfl (by rw[x.o.2];kernel_rfl) ?_)
  refine Calls.mono s.o ?_;rintro e w1 ⟨rfl,i⟩;obtain⟨⟨F,G,H,I⟩,P,Q,S,T⟩:=D.o w1 i;clear D s n x;go_wp2;go_ret;exact⟨rfl,m.o.trans (i.mono m.o.size)⟩
 ·rintro lo N X b k ⟨vs,rfl,a⟩ zF zG;have g:=(h.dy _ _ _ (h.ga _ _ _ _ a).2).1;have hN:=(h.ga _ _ _ _ a).1;have y:=de _ _ _ _ a;obtain⟨W,f⟩:∃W,W=X.alloc (.cells (dL d vs).toArray 45):=⟨_,rfl⟩;have c:=(AG f).1;have n:Hid (W.rangeAt X.heap.size 1 vs/\vs.length=17):=⟨(JJ (AG f).2.2 g).2.2.2.2.2,g⟩;have s:=Yx (h.mark lo N W vs k (h.db _ _ _ _ _ a c.size (fun q _ hq=>c.block q (by omega))) zF zG)
  have m:=Yx c;have o:=Yx f;clear f a h g c;generalize hp:dL d vs=p at *
  have HP:=Yx hp;clear hp;go_enter func11,ntmps11;go_upto_region 1 with fail;rw[←o.o];clear o;go_wp2_with (refine wpList_load_mid rfl 43 _ rfl X.heap.size 1 rfl vs _ n.o.1 underlying43 rfl (by rw[n.o.2];kernel_rfl) ?_);refine Calls.mono s.o ?_;rintro e w1 ⟨⟨K,rfl,zC,zE,V⟩,i,u⟩;have HM:=Yx V;have zA:=Yx i;have zB:=Yx u;clear V i u;go_wp2;go_ret
  exact⟨⟨K,rfl,zC,zE,vs,HP.o.symm,HM.o⟩,(m.o.mono y).trans zA.o,fun q hq w=>(zB.o q hq (Zr w m.o.size)).trans (m.o.block q w)⟩
 ·rintro L X E b ⟨vs,rfl,a⟩ hb;exact⟨vs,rfl,h.dj _ _ _ _ a hb⟩
 ·rintro L L' X b ⟨vs,rfl,a⟩ y;exact⟨vs,rfl,h.dd _ _ _ _ a y⟩
 ·rintro lo N X E b ⟨vs,rfl,a⟩ A z;exact⟨vs,rfl,h.db _ _ _ _ _ a A z⟩
 ·rintro lo N X E b K ⟨vs,rfl,a⟩ A z;exact⟨vs,rfl,h.gi _ _ _ _ _ _ a A z⟩
 ·rintro lo N X b ⟨vs,rfl,a⟩;obtain⟨r,h3⟩:=h.ga _ _ _ _ a;exact⟨r,vs,rfl,h3⟩
 ·rintro L X b ⟨vs,rfl,a⟩;exact Ju (h.dy _ _ _ a)
theorem ZM{M:Nat->Nat->Zh->Zj->Nat->Prop}(d:Dd)(o:∀lo N X a K,M lo N X a K->a.length=17)(h:∀(lo N:Nat) (X:Zh) (a:Zj) (K:Nat),M lo N X a K->Calls prog 28 #[.agg a.toArray,Zg 1] X fun e b=>e=.returned (Zg K)/\Zz X b)
 (n:∀(lo N:Nat) (X b:Zh) (a:Zj) (K:Nat),M lo N X a K->Zz X b->M lo N b a K) (lo N:Nat) (X:Zh) (m:Zj) (K:Nat) (s:∃a,m=dL d a/\M lo N X a K):
 Calls prog 12 #[.agg m.toArray,Zg 1] X fun e b=>e=.returned (Zg K)/\Zz X b:=by
 obtain⟨a,rfl,g⟩:=s;have i:=o _ _ _ _ _ g;obtain⟨W,c⟩:∃W,W=X.alloc (.cells (dL d a).toArray 45):=⟨_,rfl⟩;have f:=(AG c).1;have k:Hid (W.rangeAt X.heap.size 1 a/\a.length=17):=⟨(JJ (AG c).2.2 i).2.2.2.2.2,i⟩;have r:=Yx (h lo N W a K (n _ _ _ _ _ _ g f));have j:=Yx f;have l:=Yx c;clear c g h i f n o;generalize dL d a=p at *
 go_enter func12,ntmps12;go_upto_region 1 with fail;rw[←l.o];clear l;go_wp2_with (refine wpList_load_mid rfl 43 _ rfl X.heap.size 1 rfl a _ k.o.1 underlying43 rfl (by rw[k.o.2];kernel_rfl) ?_);refine Calls.mono r.o ?_;rintro e t ⟨rfl,q⟩;go_wp2;go_ret;exact⟨rfl,j.o.trans (q.mono j.o.size)⟩
namespace ExactGiveBack
theorem walk_gen{D:Type}(To:D->Prop)(RX:Nat->Zh->Zj->Prop)(OX:Nat->Nat->Zh->Zj->Prop)(MX:Nat->Nat->Zh->Zj->Nat->Prop)(RA:D->Nat->Zh->Zj->Prop)(OA:D->Nat->Nat->Zh->Zj->Prop)(MA:D->Nat->Nat->Zh->Zj->Nat->Prop)(zA:Prop)(A:Zj)(n:Int)(w:Zh)(hA:A.length=17)
 (kX:zA->Iq 17 1000 9 10 RX OX MX) (kA:∀o,To o->Iq 22 1 8 11 (RA o) (OA o) (MA o))
 (hh:∀o,To o->∀(lo N:Nat) (X:Zh) (cs:Zj) (K:Nat),MA o lo N X cs K->Calls prog 12 #[.agg cs.toArray,Zg 1] X fun e d=>e=.returned (Zg K)/\Zz X d)
 (cz:∀o o',To o->To o'->o=o')
 (hz:∀X,Zz w X->Calls prog 4 #[.agg A.toArray,Zg 1048576] X fun e d=>∃r:Int,e=.returned (Zg r)/\Zz X d/\(0<=r->zA))
 (ht:zA->∀X,Zz w X->Calls prog 6 #[.agg A.toArray] X fun e d=>∃cs:Zj,e=.returned (.agg cs.toArray)/\RX d.heap.size d cs/\OX X.heap.size d.heap.size d cs/\Zz X d)
 (hs:zA->∀X cs,Zz w X->RX X.heap.size X cs->Calls prog 5 #[.agg cs.toArray,Zg n] X fun e d=>∃(o:D) (ds:Zj),e=.returned (.agg ds.toArray)/\To o/\RA o d.heap.size d ds/\Zz X d)
 (hi:zA->∀X cs,Zz w X->RX X.heap.size X cs->Calls prog 7 #[.agg cs.toArray,Zg n] X fun e d=>∃(o:D) (ds:Zj),e=.returned (.agg ds.toArray)/\To o/\OA o X.heap.size d.heap.size d ds/\Zz X d):
 Calls prog 3 #[.agg A.toArray,Zg n] w fun e w'=>e=.returned (.bool true)/\Zz w w':=by
 obtain⟨W,hW⟩:∃W,W=w.alloc (.cells A.toArray 33):=⟨_,rfl⟩;have bW:Below w.heap.size w W:=by rw[hW];exact Zy
 have zW:W.heap.size=w.heap.size+1:=by rw[hW];simp
 have xW:Aa W w.heap.size A:=by rw[hW];exact Aa.new w _ _
 have E:Hid (zA->Iq 17 1000 9 10 RX OX MX):=kX;have b:=Yx kA;have HH:=Yx hh;have HD:=Yx cz;have zO:Hid (A.length=17):=hA;have HZ:=Yx hz;have HT:=Yx ht;have HS:=Yx hs;have HI:=Yx hi;have HA:Hid (∀X,Zz W X->Aa X w.heap.size A/\Zz w X):=fun X hX=>⟨Aa.same xW (hX.block _ (by omega)),bW.trans (hX.mono bW.size)⟩;have HW:=Yx hW;clear hW xW kX kA hh cz hz ht hs hi hA;go_enter func3,ntmps3
 go_upto_region 1 with fail;rw[←HW.o];clear HW
 as_aux_lemma=>
 go_wp2_with (refine wpList_load_mid rfl 33 _ rfl w.heap.size 0 rfl A _ (HA.o W (Below.refl _ _)).1.range underlying33 rfl (by rw[zO.o];kernel_rfl) ?_);refine(HZ.o W bW).mono ?_;rintro e w1 ⟨r1,rfl,xP,yZ⟩;have zN:Hid (Zz W w1):=xP;clear xP HZ bW;try generalize (.agg A.toArray:Value)=dvA
 by_cases n1:r1<0
 ·clear yZ;go_wp2;go_ret;exact⟨rfl,(HA.o w1 zN.o).2⟩
 have hf:=yZ (by omega);replace E:Hid (Iq 17 1000 9 10 RX OX MX):=E.o hf;replace HT:=Yx (HT.o hf);replace HS:=Yx (HS.o hf);replace HI:=Yx (HI.o hf);clear hf yZ
 as_aux_lemma=>
 go_wp2_with (refine wpList_load_mid rfl 33 _ rfl w.heap.size 0 rfl A _ (HA.o w1 zN.o).1.range underlying33 rfl (by rw[zO.o];kernel_rfl) ?_);refine(HT.o w1 (HA.o w1 zN.o).2).mono ?_;rintro e w2 ⟨vF,rfl,xU,_,xQ⟩;have yP:Hid (Zz W w2):=zN.o.trans (xQ.mono zN.o.size);have xF:=Yx xU;clear xQ xU;try generalize (.agg A.toArray:Value)=dvA
 as_aux_lemma=>
 go_wp2_with fail;refine(HS.o w2 vF (HA.o w2 yP.o).2 xF.o).mono ?_;rintro e x ⟨o,v,rfl,yN,xB,xR⟩;have yQ:Hid (Zz W x):=yP.o.trans (xR.mono yP.o.size);have xH:Hid (To o):=yN;replace b:Hid (Iq 22 1 8 11 (RA o) (OA o) (MA o)):=b.o o yN;replace HH:=Yx (HH.o o yN);have vM:=yQ.o.size;obtain⟨H,yC⟩:=b.o.dy _ _ _ xB;obtain⟨P,yU⟩:∃Y,Y=(x.alloc (.cells Yc 45)).setCells x.heap.size 0 v.toArray.toList:=⟨_,rfl⟩
 have zY:=boxed (X:=x) (cs:=v) (z:=Yb) (T:=45) (by rw[H];rfl);have xL:P=(x.alloc (.cells Yb.toArray 45)).setCells x.heap.size 0 v:=yU;rw[←xL]at zY;obtain⟨vA,yJ,vU⟩:=zY;have p:Hid ((x.alloc (.cells Yc 45)).there x.heap.size 0 v.toArray.size/\v.length=22/\∀u∈v,u.oneCell'=true):=⟨by rw[show v.toArray.size=22 from by rw[List.size_toArray];exact H];exact(Aa.new x Yb 45).there,H,yC⟩;have xI:=Yx yU
 have zB:Hid (v.length=22):=H;clear yU xL H yC;have zC:Below W.heap.size W P:=yQ.o.trans (yJ.mono yQ.o.size);have a:Hid (L1 (RA o) w P A v x.heap.size P.heap.size):=⟨(HA.o P zC).2,(HA.o P zC).1,vA,b.o.dd _ _ _ _ (b.o.dj _ _ _ _ xB yJ) yJ.size,by omega,by omega,Zx⟩;have tA:Hid (x.heap.size<P.heap.size):=by show x.heap.size<P.heap.size;omega
 obtain⟨L,hL⟩:∃L,L=P.heap.size:=⟨_,rfl⟩;rw[←hL]at a;have yS:Hid (L=P.heap.size):=hL;clear hL xB yN xR vA yJ zC HS xF HA vM vU
 as_aux_lemma=>
 go_wp2_with (first|refine wpList_load_mid rfl 33 _ rfl w.heap.size 0 rfl A _ a.o.bA.range underlying33 rfl (by rw[zO.o];kernel_rfl) ?_|(refine wpList_store_mid rfl 45 _ _ rfl x.heap.size 0 v.toArray rfl rfl p.o.1 (by rw[List.size_toArray,p.o.2.1];kernel_rfl) (all_oneCell_toArray p.o.2.2) ?_;rw[←xI.o]));clear xI p;refine(HT.o P a.o.cf).mono ?_;rintro e c ⟨j,rfl,xV,xS,yX⟩
 replace a:=Yx (a.o.aj b.o (yX.mono a.o.le));obtain⟨I,yD⟩:=E.o.dy _ _ _ xV;obtain⟨Z,yV⟩:∃Y,Y=(c.alloc (.cells Ya 43)).setCells c.heap.size 0 j.toArray.toList:=⟨_,rfl⟩;have zZ:=boxed (X:=c) (cs:=j) (z:=Xz) (T:=43) (by rw[I];rfl);have xM:Z=(c.alloc (.cells Xz.toArray 43)).setCells c.heap.size 0 j:=yV;rw[←xM]at zZ;obtain⟨vC,yK,vV⟩:=zZ
 have s:Hid ((c.alloc (.cells Ya 43)).there c.heap.size 0 j.toArray.size/\j.length=17/\∀u∈j,u.oneCell'=true):=⟨by rw[show j.toArray.size=17 from by rw[List.size_toArray];exact I];exact(Aa.new c Xz 43).there,I,yD⟩;have xJ:=Yx yV;have O:Hid (j.length=17):=I;clear yV xM I yD;have xT:OX L c.heap.size c j:=by rw[yS.o];exact xS
 have m:Hid (L2 OX Z j L c.heap.size c.heap.size):=⟨vC,E.o.db _ _ _ _ _ xT yK.size (fun q _ h2=>yK.block q h2),Zx,by omega⟩;replace a:=Yx (a.o.aj b.o (yK.mono a.o.le));have vE:Hid (L<=c.heap.size):=by show L<=c.heap.size;rw[yS.o];exact yX.size
 clear xV xS yX vC yK xT yS;try generalize (.agg A.toArray:Value)=dvA
 as_aux_lemma=>
 go_wp2_with (first|refine wpList_load_mid rfl 43 _ rfl c.heap.size 0 rfl j _ m.o.bX.range underlying43 rfl (by rw[O.o];kernel_rfl) ?_|(refine wpList_store_mid rfl 43 _ _ rfl c.heap.size 0 j.toArray rfl rfl s.o.1 (by rw[List.size_toArray,s.o.2.1];kernel_rfl) (all_oneCell_toArray s.o.2.2) ?_;rw[←xJ.o]));clear xJ s;refine(HI.o Z j a.o.cf (E.o.ga _ _ _ _ m.o.oX).2).mono ?_
 rintro e i ⟨o5,g,rfl,yH,xA,yL⟩;obtain rfl:=HD.o o o5 xH.o yH;replace a:=Yx (a.o.aj b.o (yL.mono a.o.le));replace m:=Yx (m.o.aj E.o yL);have xX:=(b.o.ga _ _ _ _ xA).2;obtain⟨J,yE⟩:=b.o.dy _ _ _ xX;obtain⟨W5,yW⟩:∃Y,Y=(i.alloc (.cells Yc 45)).setCells i.heap.size 0 g.toArray.toList:=⟨_,rfl⟩;have yA:=boxed (X:=i) (cs:=g) (z:=Yb) (T:=45) (by rw[J];rfl)
 have xN:W5=(i.alloc (.cells Yb.toArray 45)).setCells i.heap.size 0 g:=yW;rw[←xN]at yA;obtain⟨vD,zR,vW⟩:=yA;have t:Hid ((i.alloc (.cells Yc 45)).there i.heap.size 0 g.toArray.size/\g.length=22/\∀u∈g,u.oneCell'=true):=⟨by rw[show g.toArray.size=22 from by rw[List.size_toArray];exact J];exact(Aa.new i Yb 45).there,J,yE⟩;have xK:=Yx yW;have F:Hid (g.length=22):=J;clear yW xN J yE
 have l:Hid (L3 (OA o) W5 g Z.heap.size i.heap.size i.heap.size):=⟨vD,b.o.db _ _ _ _ _ xA zR.size (fun q _ h2=>zR.block q h2),Zx,by omega⟩;replace a:=Yx (a.o.aj b.o (zR.mono a.o.le));replace m:=Yx (m.o.aj E.o zR);have yR:Hid (c.heap.size<Z.heap.size/\Z.heap.size<=i.heap.size):=by refine⟨?_,yL.size⟩;show c.heap.size<Z.heap.size;omega
 clear yH xA yL xX vD zR vV vW
 as_aux_lemma=>
 go_wp2_with (first|refine wpList_load_mid rfl 45 _ rfl i.heap.size 0 rfl g _ l.o.bG.range underlying45 rfl (by rw[F.o];kernel_rfl) ?_|refine wpList_load_mid rfl 45 _ rfl x.heap.size 0 rfl v _ a.o.bS.range underlying45 rfl (by rw[zB.o];kernel_rfl) ?_|(refine wpList_store_mid rfl 45 _ _ rfl i.heap.size 0 g.toArray rfl rfl t.o.1 (by rw[List.size_toArray,t.o.2.1];kernel_rfl) (all_oneCell_toArray t.o.2.2) ?_;rw[←xK.o]))
 clear xK t;refine(b.o.eq W5 g v (b.o.ga _ _ _ _ l.o.oG).2 (b.o.dd _ _ _ _ a.o.rS a.o.le)).mono ?_;rintro e Q ⟨rfl,yM⟩;replace a:=Yx (a.o.aj b.o (yM.mono a.o.le));replace m:=Yx (m.o.aj E.o yM);replace l:=Yx (l.o.aj b.o.db yM);clear yM
 as_aux_lemma=>
 go_upto_region 10 with fail;go_cut [35] (fun u wx=>u=.bool false/\Hid (Zz Q wx))
 case first=>
  have yT:Hid (∀X,Zz Q X->Aa X c.heap.size j/\Aa X w.heap.size A):=fun X hX=>⟨Aa.same m.o.bX (hX.block _ m.o.le),Aa.same a.o.bA (hX.block _ (by have:=a.o.l0;have:=a.o.le;omega))⟩;refine wp_region_held_drew (S:=fun X=>Aa X c.heap.size j/\Aa X w.heap.size A) (by kernel_rfl) (yT.o _ (Below.refl _ _).drew) (fun hS=> ?_)
  refine Et 0 ⟨some 31,.load 43 (.tmp 7),43, "exact.go:2027",#[],none⟩ (.agg j.toArray) (by exact yieldsIf_load_mid (by rfl) 43 _ rfl c.heap.size 0 rfl j _ (fun X h=>h.1.range) underlying43 rfl (by rw[O.o];kernel_rfl)) (by exact hS) ?_;try simp only[Act.put,Zq,Zp,Zo]
  refine Et 1 ⟨some 32,.load 33 (.tmp 2),33, "exact.go:2027",#[],none⟩ (.agg A.toArray) (by exact yieldsIf_load_mid (by rfl) 33 _ rfl w.heap.size 0 rfl A _ (fun X h=>h.2.range) underlying33 rfl (by rw[zO.o];kernel_rfl)) (by exact hS) ?_;try simp only[Act.put,Zq,Zp,Zo]
  refine Br 2 ⟨some 33,.call {callee:=Callee.value (.func 6),args:= #[.tmp 32],argTypes:= #[33]},43, "exact.go:2027",#[Al 1],none⟩ (fun K hK=> ?_);go_simp;refine(HT.o Q.drew a.o.cf.drew).mono ?_;rintro e w7 ⟨yc,rfl,vL,_,vI⟩;have zS:Below Q.heap.size Q w7:=(Below.refl Q.heap.size Q).drew.trans vI;try go_simp
  refine hK.out _ _ (yT.o w7 zS) (fun tB=> ?_);clear hK K;try simp only[Act.put,Zq,Zp,Zo]
  refine Br 3 ⟨some 34,.call {callee:=Callee.value (.func 9),args:= #[.tmp 31,.tmp 33],argTypes:= #[43,43]},4, "exact.go:2027",#[Al 0,Al 2,⟨2,.chain⟩],none⟩ (fun K hK=> ?_);go_simp;refine(E.o.eq w7 j yc (E.o.dd _ _ _ _ (E.o.dj _ _ _ _ (E.o.ga _ _ _ _ m.o.oX).2 zS) zS.size) vL).mono ?_;rintro e w8 ⟨rfl,vJ⟩;have xO:Below Q.heap.size Q w8:=zS.trans (vJ.mono zS.size);try go_simp
  refine hK.out _ _ (yT.o w8 xO) (fun vH=> ?_);clear hK K;try simp only[Act.put,Zq,Zp,Zo]
  refine Bq 4 ⟨some 35,.unOp .not 4 (.tmp 34),4, "exact.go:2027",#[Al 3],none⟩ (.bool false) (by exact vH) ?_;try simp only[Act.put,Zq,Zp,Zo]
  refine wpAnyH_done (by kernel_rfl) ?_ _;go_wp2_with fail;go_meet;exact⟨rfl,xO⟩
 case rest=>
  obtain⟨rfl,HE⟩:=hcut;revert wc;intro w8 HE;replace a:=Yx (a.o.aj b.o (HE.o.mono a.o.le));replace m:=Yx (m.o.aj E.o HE.o);replace l:=Yx (l.o.aj b.o.db HE.o);clear HE
  as_aux_lemma=>
  go_wp2_with (refine wpList_load_mid rfl 43 _ rfl c.heap.size 0 rfl j _ m.o.bX.range underlying43 rfl (by rw[O.o];kernel_rfl) ?_);refine(E.o.mark L c.heap.size w8 j 1 m.o.oX (by omega) (by omega)).mono ?_;rintro e w9 ⟨⟨K9,rfl,vG,_,_⟩,yY,xY⟩;have vK:¬((K9:Int)<0):=by omega
  replace a:=Yx (a.o.aj b.o yY);replace l:=Yx (l.o.stays (B:=c.heap.size) b.o.db (by have:=yR.o;omega) (by have:=yR.o;omega) yY.size xY);clear yY xY m O E
  as_aux_lemma=>
  go_wp2_with (first|refine GZ (by rfl) 45 _ rfl i.heap.size 0 rfl g _ l.o.bG.range underlying45 rfl (by rw[F.o];kernel_rfl) ?_|refine GZ (by rfl) 45 _ rfl x.heap.size 0 rfl v _ a.o.bS.range underlying45 rfl (by rw[zB.o];kernel_rfl) ?_);refine(b.o.eq w9 g v (b.o.ga _ _ _ _ l.o.oG).2 (b.o.dd _ _ _ _ a.o.rS a.o.le)).mono ?_;rintro e vP ⟨rfl,zF⟩;replace a:=Yx (a.o.aj b.o (zF.mono a.o.le))
  replace l:=Yx (l.o.aj b.o.db zF);clear zF
  as_aux_lemma=>
  go_wp2_with (refine wpList_load_mid rfl 45 _ rfl i.heap.size 0 rfl g _ l.o.bG.range underlying45 rfl (by rw[F.o];kernel_rfl) ?_);refine(b.o.mark Z.heap.size i.heap.size vP g 1 l.o.oG (by omega) (by omega)).mono ?_;rintro e xZ ⟨⟨K,rfl,hK,_,hM⟩,zG,yG⟩;have vX:¬((K:Int)<0):=by omega
  replace a:=Yx (a.o.aj b.o (zG.mono (by have:=vE.o;have:=yR.o;omega)));have C:Hid (L3 (fun lo N X cs=>MA o lo N X cs K) xZ g Z.heap.size i.heap.size i.heap.size):=⟨Aa.same l.o.bG (yG _ (Zx) l.o.le),hM,Zx,Zr l.o.le zG.size⟩
  have KM:Hid (∀(lo N:Nat) (X d:Zh) (cs:Zj),MA o lo N X cs K->X.heap.size<=d.heap.size->(∀q,lo<=q->q<N->d.heap[q]?=X.heap[q]?)->MA o lo N d cs K):=fun lo N X d cs=>b.o.gi lo N X d cs K;clear hM zG yG l vG vK
  as_aux_lemma=>
  go_wp2_with (refine wpList_load_mid rfl 45 _ rfl i.heap.size 0 rfl g _ C.o.bG.range underlying45 rfl (by rw[F.o];kernel_rfl) ?_);refine(HH.o _ _ xZ g K C.o.oG).mono ?_;rintro e vQ ⟨rfl,zH⟩;replace a:=Yx (a.o.aj b.o (zH.mono a.o.le));replace C:=Yx (C.o.aj KM.o zH);clear zH
  as_aux_lemma=>
  go_wp2_with (refine wpList_load_mid rfl 33 _ rfl w.heap.size 0 rfl A _ a.o.bA.range underlying33 rfl (by rw[zO.o];kernel_rfl) ?_);refine(HT.o vQ a.o.cf).mono ?_;rintro e vR ⟨zc,rfl,yF,_,zI⟩;replace a:=Yx (a.o.aj b.o (zI.mono a.o.le));replace C:=Yx (C.o.aj KM.o zI);have zT:=Yx yF;clear zI yF;try generalize (.agg A.toArray:Value)=dvA
  as_aux_lemma=>
  go_wp2_with fail;refine(HI.o vR zc a.o.cf zT.o).mono ?_;rintro e y ⟨vO,M,rfl,V,yB,zJ⟩;obtain rfl:=HD.o o vO xH.o V;replace a:=Yx (a.o.aj b.o (zJ.mono a.o.le));replace C:=Yx (C.o.aj KM.o zJ);have zM:=(b.o.ga _ _ _ _ yB).2;obtain⟨k,U⟩:=b.o.dy _ _ _ zM;obtain⟨zP,zE⟩:∃Y,Y=(y.alloc (.cells Yc 45)).setCells y.heap.size 0 M.toArray.toList:=⟨_,rfl⟩
  have R:=boxed (X:=y) (cs:=M) (z:=Yb) (T:=45) (by rw[k];rfl);have zV:zP=(y.alloc (.cells Yb.toArray 45)).setCells y.heap.size 0 M:=zE;rw[←zV]at R;obtain⟨yI,G,xD⟩:=R;have f:Hid ((y.alloc (.cells Yc 45)).there y.heap.size 0 M.toArray.size/\M.length=22/\∀u∈M,u.oneCell'=true):=⟨by rw[show M.toArray.size=22 from by rw[List.size_toArray];exact k];exact(Aa.new y Yb 45).there,k,U⟩;have zU:=Yx zE
  have yO:Hid (M.length=22):=k;clear zE zV k U;have xG:Hid (RA o zP.heap.size zP M):=b.o.dd _ _ _ _ (b.o.dj _ _ _ _ zM G) G.size;replace a:=Yx (a.o.aj b.o (G.mono a.o.le));replace C:=Yx (C.o.aj KM.o G);have xE:Hid (Aa zP y.heap.size M):=yI;clear V yB zJ zM yI G xD zT HT HI
  as_aux_lemma=>
  go_wp2_with (first|refine wpList_load_mid rfl 45 _ rfl y.heap.size 0 rfl M _ xE.o.range underlying45 rfl (by rw[yO.o];kernel_rfl) ?_|refine wpList_load_mid rfl 45 _ rfl x.heap.size 0 rfl v _ a.o.bS.range underlying45 rfl (by rw[zB.o];kernel_rfl) ?_|(refine wpList_store_mid rfl 45 _ _ rfl y.heap.size 0 M.toArray rfl rfl f.o.1 (by rw[List.size_toArray,f.o.2.1];kernel_rfl) (all_oneCell_toArray f.o.2.2) ?_;rw[←zU.o]))
  clear zU f;refine(b.o.eq zP M v xG.o (b.o.dd _ _ _ _ a.o.rS a.o.le)).mono ?_;rintro e vS ⟨rfl,zK⟩;replace a:=Yx (a.o.aj b.o (zK.mono a.o.le));replace C:=Yx (C.o.aj KM.o zK);clear zK xG xE
  as_aux_lemma=>
  go_wp2_with (refine wpList_load_mid rfl 45 _ rfl i.heap.size 0 rfl g _ C.o.bG.range underlying45 rfl (by rw[F.o];kernel_rfl) ?_);refine(HH.o _ _ vS g K C.o.oG).mono ?_;rintro e vT ⟨rfl,zX⟩;have xC:Hid (Zz w vT):=a.o.cf.trans (zX.mono a.o.cf.size);clear zX a C;go_wp2;go_ret;exact⟨rfl,xC.o⟩
end ExactGiveBack
theorem Gm{P:Program}{c:Array Oper}{rest:List Oper}{b:Oper}{a:Act}{w:Zh}{Q:Exit->Act->Zh->Prop}(f:b.guard=none)(t:TypeId)(parts:Array (Nat×Operand))(g:b.op=.build t parts)(l:List (Nat×Value))(e:(parts.map fun(i,x)=>(i,a.eval x)).toList=l)(cells:Array Value)(d:P.built t l=some cells)(h:wpList P c Q rest (a.put b.dst (.agg cells)) w):wpList P c Q (b::rest) a w:=
 wpList_build f t parts g (by rw[e,d];rfl) (by rw[e,d];exact h)
theorem Ll{s:Zj}(h:s.length=17):∃i j k l m n o p q r a b c d e f g,s=[i,j,k,l,m,n,o,p,q,r,a,b,c,d,e,f,g]:=by
 match s,h with
 |[i,j,k,l,m,n,o,p,q,r,a,b,c,d,e,f,g],_=>exact⟨i,j,k,l,m,n,o,p,q,r,a,b,c,d,e,f,g,rfl⟩
theorem My{a:Zj}(h:a.length=17)(s:Zi)(n:Int):prog.built 45 [(1,.agg a.toArray),(2,.string s),(3,Zg n)]=some (Zg 0::(a++[.string s,Zg n,Zd,Zd])).toArray:=by
 obtain⟨j,k,l,m,o,p,q,r,t,u,b,c,d,e,f,g,i,rfl⟩:=Ll h
 kernel_rfl
theorem RL{a:Zj}(h:a.length=17):prog.built 45 [(1,.agg a.toArray)]=some (Zg 0::(a++[Zd,Zf,Zd,Zd])).toArray:=by
 obtain⟨j,k,l,m,n,o,p,q,r,s,b,c,d,e,f,g,i,rfl⟩:=Ll h
 kernel_rfl
theorem Aa.ltL{X:Zh}{b n:Nat}{l:Zj}(h:Aa X b l)(c:l.length=n+1):b<X.heap.size:=by
 cases l with
 |nil=>simp at c
 |cons a l=>exact h.lt
theorem RM{X:Zh}{b:Nat}{d:Dd}{a:Zj}(h:Aa X b (dL d a))(c:a.length=17):(X.cell? (Ze b 0)=some (Zg d.c)/\X.frozen? ⟨b,0,none⟩=false)/\(X.cell? (Ze b 20)=some (.string d.a)/\X.frozen? ⟨b,20,none⟩=false)/\X.cell? (Ze b 21)=some (.string d.b)/\X.frozen? ⟨b,21,none⟩=false:=by obtain⟨m,n,o,p,q,r,s,t,u,v,e,f,g,i,j,k,l,rfl⟩:=Ll c;exact⟨h 0 _ rfl,h 20 _ rfl,h 21 _ rfl⟩
theorem Qj{X:Zh}{b:Nat}{d:Dd}{a:Zj}(h:Aa X b (dL d a))(c:Int):Aa (X.setCell (Ze b 0) (Zg c)) b (dL ⟨c,d.v,d.s,d.n,d.a,d.b⟩ a):=h.set 0 _
theorem WT{X:Zh}{b:Nat}{d:Dd}{a:Zj}(h:Aa X b (dL d a))(e:a.length=17)(c:Int)(p q:Zi):Aa (((X.setCell (Ze b 0) (Zg c)).setCell (Ze b 20) (.string p)).setCell (Ze b 21) (.string q)) b (dL ⟨c,d.v,d.s,d.n,p,q⟩ a):=by obtain⟨n,o,r,s,t,u,v,w,x,y,f,g,i,j,k,l,m,rfl⟩:=Ll e;exact((h.set 0 _).set 20 _).set 21 _
def Jv(v:Vd)(e:Ed)(Z:Rs->Zk->Nat->Zk->Nat->Zk->Nat->Zh->Prop)(X:Zh)(ch:Zj):Prop:=
 (∃c p q,e.no v c p q/\ch=BW c p q)∨∃r ta tc pa pc la lc,e.yes v r/\ch=[Zf,Zg v.wd,Zg r.now,Zg r.given,Zg r.ae,.slice ta r.ks.length tc,.slice pa r.ps.length pc,.slice la r.ls.length lc,.string r.sm,Zg r.le,Zd,Zd]/\Z r ta tc pa pc la lc X
theorem Jv.small{v:Vd}{e:Ed}{Z:Rs->Zk->Nat->Zk->Nat->Zk->Nat->Zh->Prop}{X:Zh}{a:Zj}(h:Jv v e Z X a):a.length=12/\∀u∈a,u.oneCell'=true:=by
 rcases h with⟨c,p,q,_,rfl⟩|⟨r,i,j,f,g,b,d,_,rfl,_⟩
 ·exact⟨rfl,by simp[BW,Value.oneCell']⟩
 ·exact⟨rfl,by simp[Value.oneCell']⟩
def Ic(v:Vd)(e:Ed)(w:Zh)(o:Ending)(w':Zh):Prop:=
 ∃d vs,Hu v e d/\o=.returned (.agg (dL d vs).toArray)/\(∀V X',(∀b∈V,b<w.heap.size)->Tn V w' X'->Lg d.v X'.heap.size X' vs)/\Zz w w'
theorem Nl{v:Vd}{e:Ed}{w X:Zh}{c D:Zj}{d:Dd}(f:Aa X (w.heap.size+2) CN/\Zz w X)(m:∀V a,(∀b∈V,b<w.heap.size+3)->Tn V X a->Lg d.v a.heap.size a c)(l:Hu v e d)(p:c.length=17/\∀u∈c,u.oneCell'=true)(j:D=dL d c):
 (D.length=22/\∀u∈D,u.oneCell'=true)/\X.there (w.heap.size+2) 0 D.toArray.size/\Aa (X.setCells (w.heap.size+2) 0 D.toArray.toList) (w.heap.size+2) D/\Ic v e w (.returned (.agg D.toArray)) (X.setCells (w.heap.size+2) 0 D.toArray.toList):=by
 have g:D.length=22/\∀u∈D,u.oneCell'=true:=by rw[j];exact Ju p
 have k:=AP (w.heap.size+2) D 0 X;refine⟨g,?_,f.1.ba D (by rw[g.1];rfl),d,c,l,by rw[j],fun V a o n=>m ((w.heap.size+2)::V) a (fun b i=> ?_) ((k.mono (by simp)).trans (n.mono (by simp;intro b i;exact .inr i))),f.2.trans (k.below f.2.size (by simp))⟩
 ·rw[show D.toArray.size=22 from by rw[List.size_toArray];exact g.1];exact f.1.there
 ·rcases List.mem_cons.1 i with h|h
  ·omega
  ·have:=o b h;omega
theorem AL.cl{c X:Zh}{base n:Nat}{S U T P L Q M:Value}{j:Zj}{v:Vd}(h:AL c base S U T P L Q M j v)(l:n<=base)(e:Zz c X):∀V a,(∀b∈V,b<n)->Tn V X a->Lg v a.heap.size a (BS v S U T P L Q M):=fun V a g f=>by refine(h.stays (((Tn.of (V:=[]) e).mono (by simp)).trans f) (fun b i d=> ?_)).gj;have k:=h.lo b d;have:=g b i;omega
theorem AL.ap{w:Zh}{base:Nat}{S U T P L Q M:Value}{c:Zj}{v:Vd}(h:AL w base S U T P L Q M c v):(∀g,Ak U=some g->Ak S≠some g)/\∀g,Ak U=some g->Ak Q≠some g/\Ak M≠some g:=by
 have a:=h.nd;unfold Cx at a;generalize Bb T P L c=B at *
 simp only[List.nodup_append,List.mem_append,Option.mem_toList]at a;refine⟨fun g b f=>a.1.2.2 g f g b rfl,fun g b=>⟨fun e=> ?_,fun d=> ?_⟩⟩
 ·exact a.2.2 g (.inr b) g (.inr (.inl e)) rfl
 ·exact a.2.2 g (.inr b) g (.inr (.inr d)) rfl
theorem WU{v:Vd}{L:Nat}{X:Zh}{b:Zj}(h:Lg v L X b):b.length=17/\∀u∈b,u.oneCell'=true:=by obtain⟨a,rfl,_⟩:=h;exact⟨rfl,by simp[BS,Value.oneCell']⟩
theorem YE{v:Vd}{e:Ed}{r:Rs}{X:Zh}{C D E F G:Nat}{k m s p b g d:Zk}{l o n t q c i h f:Nat}{a j:Zl}{B:Zj}(y:v.wd=v.sw)(J:Ao X C (.slice k v.ss.length l) v.ss)(K:Ao X D (.slice m o n) a)(z:a=v.tt++[e.bt v.wd])(A:o=a.length)(x:AO X E (.slice s r.ks.length t) (.slice p r.ps.length q) (.slice b r.ls.length c) B r.ks r.ps r.ls)(I:Ao X F (.slice g i h) j)(w:j=shQ v.ph r.ks v.qs v.ms (e.held r))(u:i=j.length)(H:Ao X G (.slice d v.ms.length f) v.ms):
 Lg (doV v e r) X.heap.size X [Zg v.wd,Zg v.ak,.slice k v.ss.length l,.slice m o n,Zg v.wd,Zg r.now,Zg r.given,Zg r.ae,.slice s r.ks.length t,.slice p r.ps.length q,.slice b r.ls.length c,Zg v.ph,.slice g i h,.slice d v.ms.length f,Zg v.ag,Zg v.at_,Zg v.ro]:=by
 subst A u;subst z w;refine⟨⟨k,l,m,n,s,t,p,q,b,c,g,h,d,f⟩,?_,⟨J.ft,K.ft,x.get,I.ft,H.ft⟩⟩;unfold BS doV;simp only[←y]
end Go.Proofs.YtdgblkklkaklhaaGreatDoor
