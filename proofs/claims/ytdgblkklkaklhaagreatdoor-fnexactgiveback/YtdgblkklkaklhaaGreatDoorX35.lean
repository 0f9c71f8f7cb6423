import Derived.Test.YtdgblkklkaklhaaGreatDoorX34
import Derived.Conc.RwLib
import Derived.Conc.MuLone
import Derived.KernelRfl
set_option maxRecDepth 100000
set_option maxHeartbeats 16000000
namespace Go.Proofs.YtdgblkklkaklhaaGreatDoor
open Go.ChangeShapes Go.WideShapes Go.ChangeAt Go.RowKit _root_.Go.Proofs.Tryz
def Fe(w:Zh)(base:Nat)(a:Zk)(ss:Zl):Prop:=
 ss=[]∨∃b off,a=some ⟨b,off,none⟩/\base<=b/\b<w.heap.size/\∀i s,ss[i]?=some s->w.cell? (Ze b (off+i))=some (.string s)/\w.frozen? ⟨b,off+i,none⟩=false
def YF(a:Zk):Option Nat:=a.map (·.block)
theorem Fe.row{w:Zh}{base:Nat}{a:Zk}{c:Zl}(h:Fe w base a c):Ad w w.heap.size a c:=by
 rcases h with h|⟨b,d,rfl,j,e,f⟩
 ·exact .inl h
 ·exact .inr ⟨b,d,rfl,e,fun i s g=>(f i s g).1⟩
theorem Fe.stays{w f:Zh}{base:Nat}{a:Zk}{k:Zl}(h:Fe w base a k)(m:w.heap.size<=f.heap.size)(d:∀b,YF a=some b->base<=b->b<w.heap.size->f.heap[b]?=w.heap[b]?):Fe f base a k:=by
 rcases h with h|⟨b,c,rfl,g,l,j⟩
 ·exact .inl h
 ·have e:=d b rfl g l;exact .inr ⟨b,c,rfl,g,by omega,fun i s d=>⟨(World.cell?_of_block (a:=⟨b,c+i,none⟩) e).trans (j i s d).1,(World.frozen?_of_block (a:=⟨b,c+i,none⟩) e).trans (j i s d).2⟩⟩
theorem Fe.below{w e:Zh}{base:Nat}{a:Zk}{d:Zl}(h:Fe w base a d)(c:Zz w e):Fe e base a d:=
 h.stays c.size (fun b _ _ f=>c.block b f)
theorem Fe.mono{w:Zh}{base base':Nat}{a:Zk}{c:Zl}(h:Fe w base a c)(i:base'<=base):Fe w base' a c:=by
 rcases h with h|⟨b,d,rfl,g,e,f⟩
 ·exact .inl h
 ·exact .inr ⟨b,d,rfl,by omega,e,f⟩
theorem Fe.set{w:Zh}{base g a:Nat}{d:Zl}(h:Fe w base (some ⟨g,a,none⟩) d){j:Nat}(f:j<d.length)(t:Zi):Fe (w.setCell (Ze g (a+j)) (.string t)) base (some ⟨g,a,none⟩) (d.set j t):=by
 rcases h with h|⟨b,m,e,n,o,k⟩
 ·rw[h]at f;simp at f
 ·cases e;refine .inr ⟨g,a,rfl,n,by simpa using o,fun i s c=> ?_⟩;have p:i<d.length:=by have:=(Zw c).1;rw[List.length_set]at this;exact this
  have l:=k i _ (Zv p);refine⟨?_,by simpa using l.2⟩;by_cases hij:i=j
  ·subst hij;rw[List.getElem?_set_self f]at c;cases c;exact World.cell?_setCell_same' _ _ _ (by rw[l.1];rfl)
  ·rw[List.getElem?_set_ne (fun e=>hij e.symm)]at c;exact(World.cell?_setCell_other w _ _ _ (by simp<;>omega)).trans (k i s c).1
def Jw(g k g3 q3 r3 g5 k5:Nat)(v:Vd):Va:=⟨some ⟨g,0,none⟩,v.ss.length,some ⟨k,0,none⟩,v.tt.length,some ⟨g3,0,none⟩,v.ks.length,some ⟨q3,0,none⟩,v.ps.length,some ⟨r3,0,none⟩,v.ls.length,some ⟨g5,0,none⟩,v.qs.length,some ⟨k5,0,none⟩,v.ms.length⟩
def VQ(v:Vd)(L:Nat)(X:Zh)(cs:Zj):Prop:=
 ∃g k g3 q3 r3 g5 k5,cs=[Zg v.wd,Zg v.ak,.slice (some ⟨g,0,none⟩) v.ss.length v.ss.length,.slice (some ⟨k,0,none⟩) v.tt.length v.tt.length,Zg v.sw,Zg v.now,Zg v.given,Zg v.ae,.slice (some ⟨g3,0,none⟩) v.ks.length v.ks.length,.slice (some ⟨q3,0,none⟩) v.ps.length v.ps.length,.slice (some ⟨r3,0,none⟩) v.ls.length v.ls.length,Zg v.ph,.slice (some ⟨g5,0,none⟩) v.qs.length v.qs.length,.slice (some ⟨k5,0,none⟩) v.ms.length v.ms.length,Zg v.ag,Zg v.at_,Zg v.ro]/\BR X L (Jw g k g3 q3 r3 g5 k5 v) v/\Eg X ⟨g3,0,none⟩ v.ks
def Ql(v:Vd)(lo N:Nat)(X:Zh)(cs:Zj):Prop:=
 (N<=X.heap.size/\lo<=X.heap.size)/\∃g k g3 q3 r3 g5 k5 rs,cs=BS v (.slice (some ⟨g,0,none⟩) v.ss.length v.ss.length) (.slice (some ⟨k,0,none⟩) v.tt.length v.tt.length) (.slice (some ⟨g3,0,none⟩) v.ks.length v.ks.length) (.slice (some ⟨q3,0,none⟩) v.ps.length v.ps.length) (.slice (some ⟨r3,0,none⟩) v.ls.length v.ls.length) (.slice (some ⟨g5,0,none⟩) v.qs.length v.qs.length) (.slice (some ⟨k5,0,none⟩) v.ms.length v.ms.length)/\AL X lo (.slice (some ⟨g,0,none⟩) v.ss.length v.ss.length) (.slice (some ⟨k,0,none⟩) v.tt.length v.tt.length) (.slice (some ⟨g3,0,none⟩) v.ks.length v.ks.length) (.slice (some ⟨q3,0,none⟩) v.ps.length v.ps.length) (.slice (some ⟨r3,0,none⟩) v.ls.length v.ls.length) (.slice (some ⟨g5,0,none⟩) v.qs.length v.qs.length) (.slice (some ⟨k5,0,none⟩) v.ms.length v.ms.length) rs v/\(∀b∈Cx (.slice (some ⟨g,0,none⟩) v.ss.length v.ss.length) (.slice (some ⟨k,0,none⟩) v.tt.length v.tt.length) (.slice (some ⟨g3,0,none⟩) v.ks.length v.ks.length) (.slice (some ⟨q3,0,none⟩) v.ps.length v.ps.length) (.slice (some ⟨r3,0,none⟩) v.ls.length v.ls.length) (.slice (some ⟨g5,0,none⟩) v.qs.length v.qs.length) (.slice (some ⟨k5,0,none⟩) v.ms.length v.ms.length) rs,b<N)/\∀x∈rs,∃q n c,x=.slice (some ⟨q,0,none⟩) n c
theorem Eg.aj{w d:Zh}{A:Addr}{a:List Kd}{B:Nat}(h:Eg w A a)(n:BH w B (some A) a)(l:Below B w d):Eg d A a:=fun i k c=>by obtain⟨g,o,m⟩:=h i k c;obtain⟨b,f,j,e,_⟩:=n.at (Zw c).1;cases j;exact⟨g,o,(l.cell (p:=⟨b,f+i *4+3,none⟩) e).trans m⟩
theorem AO.gb{X:Zh}{lo g c:Nat}{P L:Value}{b:Zj}{f:List Kd}{y:List Pd}{w:List Ld}(h:AO X lo (.slice (some ⟨g,0,none⟩) f.length c) P L b f y w)(u:∀x∈b,∃q n c,x=.slice (some ⟨q,0,none⟩) n c):Eg X ⟨g,0,none⟩ f:=fun i k j=>by
 have t:=(Zw j).1;have m:i<b.length:=by rw[h.len];exact t
 have o:=Zv m;obtain⟨q,n,d,e⟩:=u _ (List.getElem_mem m);have p:=(h.refs i k _ j o);obtain⟨a,z,l⟩:=As p;have v:(f.zip b)[i]?=some (k,b[i]):=List.getElem?_zip_eq_some.2 ⟨j,o⟩;have r:=Bp DX v (show 3<4 by decide);have s:=h.ai.cellAt (i *4+3) (by omega);rw[e]at l;injection l with e1 e2 e3;refine⟨⟨q,0,none⟩,d,?_⟩;rw[Nat.zero_add,s,r,←e2,←e];rfl
theorem Ql.ft{v:Vd}{lo N:Nat}{X:Zh}{e:Zj}(h:Ql v lo N X e):VQ v X.heap.size X e:=by obtain⟨_,g,k,f,n,o,i,m,t,rfl,a,_,j⟩:=h;obtain⟨u,w,r,s,p,q,b,c,d,l⟩:=a.st.rows;injection b with b;injection c with c;injection d with d;subst b c d;exact⟨g,k,f,n,o,i,m,rfl,⟨a.s.ft,a.u.ft,l,a.q.ft,a.m.ft⟩,a.st.gb j⟩
theorem ZO(v:Vd)(u:Cr v):Iq 17 1000 9 10 (VQ v) (Ql v) (fun _ _ _ _ _=>True):=by
 refine⟨?_,?_,?_,?_,?_,?_,?_,?_⟩
 ·rintro X l M ⟨g,k,c,i,j,d,f,rfl,a,_⟩ ⟨D,H,w,B,C,x,A,rfl,b,_⟩;have h:=JV v (Jw g k c i j d f v) (Jw D H w B C x A v) X a b u;simp only[Jw]at h;exact h
 ·rintro lo N X l n ⟨m,g,k,c,i,j,d,f,r,rfl,a,b,_⟩ y I;have O:=u.ib;refine(Lf v lo n _ _ _ _ _ _ _ r X a y (by omega)).mono ?_;rintro e o ⟨rfl,_,s⟩;exact⟨⟨n+CS v,rfl,by omega,by omega,trivial⟩,s.below m.2 a.lo,fun q P z=>s.block q z (fun e=>by have:=b q e;omega)⟩
 ·rintro L X o l ⟨g,k,c,i,j,d,f,rfl,a,b⟩ t;exact⟨g,k,c,i,j,d,f,rfl,a.aj t,b.aj a.st.k t⟩
 ·rintro L J X l ⟨g,k,c,i,j,d,f,rfl,a,b⟩ F;exact⟨g,k,c,i,j,d,f,rfl,a.mono F,b⟩
 ·rintro lo N X o l ⟨m,g,k,c,i,j,d,f,r,rfl,a,b,E⟩ p G;exact⟨⟨Zm m.1 p,Zm m.2 p⟩,g,k,c,i,j,d,f,r,rfl,a.aj b p G,b,E⟩
 ·rintro lo N X o l K _ _ _;trivial
 ·exact fun lo N X l h=>⟨h.1.1,h.ft⟩
 ·rintro L X l ⟨g,k,c,i,j,d,f,rfl,_,_⟩;exact⟨rfl,by simp[Value.oneCell']⟩
theorem TN(v:Vd)(a:Va)(w X:Zh)(o:BR w w.heap.size a v)(n:Cr v)(m:Zz w X):
 Calls prog 6 #[.agg (Yi v a)] X fun e b=>∃c:Zj,e=.returned (.agg c.toArray)/\VQ v b.heap.size b c/\Ql v X.heap.size b.heap.size b c/\Zz X b:=by
 refine(PC v a X (o.af m) n).mono ?_;rintro e b ⟨g,k,i,q,r,j,p,s,rfl,d,l,f⟩;have h:Ql v X.heap.size b.heap.size b _:=⟨⟨Zx,f.size⟩,g,k,i,q,r,j,p,s,rfl,d,d.cg,l⟩;exact⟨_,rfl,h.ft,h,f⟩
def YG(t:Zi)(refs ss:Zl)(lo N:Nat)(X:Zh)(cs:Zj):Prop:=
 (N<=X.heap.size/\lo<=X.heap.size)/\ss.length=refs.length/\∃ra rc,cs=[.string t,.slice ra refs.length rc]/\Fe X lo ra ss/\(refs≠[]->∀b,YF ra=some b->b<N)
theorem YG.aj{t:Zi}{refs i:Zl}{lo N:Nat}{X a:Zh}{d:Zj}(h:YG t refs i lo N X d)(c:X.heap.size<=a.heap.size)(l:∀q,lo<=q->q<N->a.heap[q]?=X.heap[q]?):YG t refs i lo N a d:=by
 obtain⟨f,g,n,o,rfl,j,e⟩:=h;refine⟨⟨Zm f.1 c,Zm f.2 c⟩,g,n,o,rfl,?_,e⟩;by_cases hne:refs=[]
 ·exact .inl (List.eq_nil_of_length_eq_zero (by rw[g,hne];rfl))
 ·exact j.stays c (fun b k m _=>l b m (e hne b k))
def YH(o:Dd)(L:Nat)(X:Zh)(cs:Zj):Prop:=∃vs,cs=dL o vs/\Lg o.v L X vs
def YI(o:Dd)(lo N:Nat)(X:Zh)(cs:Zj):Prop:=∃vs,cs=dL o vs/\JW o.v o.v lo N X vs
def YJ(o:Dd)(lo N:Nat)(X:Zh)(cs:Zj)(K:Nat):Prop:=∃vs,cs=dL o vs/\K=1+CS o.v/\JW o.v (EL 1 o.v) lo N X vs
theorem ZP(o:Dd)(a:Cr o.v):Iq 22 1 8 11 (YH o) (YI o) (YJ o):=
 Aah o (ZJ o.v a) (fun _ _ _ _ h=>h.1.2)
theorem YK(o:Dd)(f:Cr o.v)(lo N:Nat)(X:Zh)(a:Zj)(K:Nat)(h:YJ o lo N X a K):
 Calls prog 12 #[.agg a.toArray,Zg 1] X fun e b=>e=.returned (Zg K)/\Zz X b:=
 ZM (M:=fun lo N X d K=>K=1+CS o.v/\JW o.v (EL 1 o.v) lo N X d) o (fun _ _ _ _ _ h=>by obtain⟨_,_,S,U,T,P,L,Q,M,i,rfl,_⟩:=h;rfl) (YA o.v f) (fun lo N X b d K h c=>⟨h.1,h.2.aj c.size (fun q _ g=>c.block q (Zr g h.2.1.1))⟩) lo N X a K h
theorem Ic.law{v:Vd}{e:Ed}{w a:Zh}{o:Ending}(g:Cr v)(h:Ic v e w o a):∃(d:Dd) (ds:Zj),o=.returned (.agg ds.toArray)/\(Cr v/\Hu v e d)/\YH d a.heap.size a ds/\Zz w a:=by obtain⟨d,i,b,rfl,c,f⟩:=h;exact⟨d,_,rfl,⟨g,b⟩,⟨i,rfl,c [] a (by simp) (Tn.of (Below.refl _ _))⟩,f⟩
theorem Hc.law{v:Vd}{e:Ed}{w a:Zh}{o:Ending}(g:Cr v)(h:Hc v e w o a):∃(d:Dd) (ds:Zj),o=.returned (.agg ds.toArray)/\(Cr v/\Hu v e d)/\YI d w.heap.size a.heap.size a ds/\Zz w a:=by obtain⟨d,S,U,T,P,L,Q,M,i,c,rfl,f,b⟩:=h;exact⟨d,_,rfl,⟨g,c⟩,⟨_,rfl,f.voa b.size⟩,b⟩
abbrev YL:Go.Conc.Locks.MuLink:={lock:=98,unlock:=99,ilock:=137,iunlock:=138,lockSlow:=167,unlockSlow:=170,disable:=163,enable:=165,acquire:=166,relMerge:=168,cas32:=164,add32:=169,tMutex:=164,tIMutex:=162,tPMutex:=192,tPIMutex:=227,tPI32:=229,tUP:=231,tNoCopy:=159,tU32:=160}
theorem Lm:Go.Conc.Locks.MuLib prog YL:=
 ⟨func98,func99,func137,func138,func163,func165,func166,func168,func164,func169,underlying162,runUnderlying162,sizeOf162,isAgg162,zeroValue162,underlying164,runUnderlying164,sizeOf164,isAgg164,zeroValue164,underlying192,runUnderlying192,sizeOf192,isAgg192,zeroValue192,underlying227,runUnderlying227,sizeOf227,isAgg227,zeroValue227,underlying229,runUnderlying229,sizeOf229,isAgg229,zeroValue229,underlying231,runUnderlying231,sizeOf231,isAgg231,zeroValue231,underlying159,runUnderlying159,sizeOf159,isAgg159,zeroValue159,underlying21,runUnderlying21,sizeOf21,isAgg21,zeroValue21,(by kernel_rfl)⟩
theorem Az{α:Type}:(∀(l:List α) (i:Nat) (a:α),l.toArray.setIfInBounds i a=(l.set i a).toArray)/\(∀(a b:α) (l:List α),(b::l).set 0 a=a::l)/\∀(a b:α) (l:List α) (n:Nat),(b::l).set (n+1) a=b::l.set n a:=
 ⟨fun _ _ _=>Zq _ _ _,fun _ _ _=>rfl,fun _ _ _ _=>rfl⟩
end Go.Proofs.YtdgblkklkaklhaaGreatDoor
