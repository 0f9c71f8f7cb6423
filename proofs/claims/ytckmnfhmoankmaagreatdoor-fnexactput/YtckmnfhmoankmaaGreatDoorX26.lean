import Derived.Test.YtckmnfhmoankmaaGreatDoorX24
import Derived.Test.YtckmnfhmoankmaaGreatDoorX23
import Derived.Test.YtckmnfhmoankmaaGreatDoorX25
set_option maxRecDepth 100000
set_option maxHeartbeats 16000000
namespace Go.Proofs.YtckmnfhmoankmaaGreatDoor
open Go.ChangeShapes Go.WideShapes Go.ChangeAt Go.RowKit _root_.Go.Proofs.Tryz
def YP(t:Zi)(rf:Zl)(L:Nat)(X:Zh)(cs:Zj):Prop:=
 ∃g:Nat,cs=[.string t,.slice (some ⟨g,0,none⟩) rf.length rf.length]/\Eo X L (some ⟨g,0,none⟩) rf
def VU(t:Zi)(rf:Zl)(lo N:Nat)(X:Zh)(cs:Zj):Prop:=
 (N<=X.heap.size/\lo<=X.heap.size)/\∃g:Nat,cs=[.string t,.slice (some ⟨g,0,none⟩) rf.length rf.length]/\g<N/\X.ownsRow lo 9 1 (.slice (some ⟨g,0,none⟩) rf.length rf.length) rf.length (rf.map Value.string)
theorem Eo.gd{w:Zh}{base g c:Nat}{a:Zl}(h:w.ownsRow base 9 1 (Za g a.length c) a.length (a.map Value.string)):Eo w w.heap.size (some ⟨g,0,none⟩) a:=by obtain⟨b,e⟩:=BX h (g:=g) rfl;refine .inr ⟨g,0,rfl,(h.lt g rfl).2,⟨b,e⟩,fun i s f=> ?_⟩;obtain⟨d,rfl⟩:=Zw f;rw[Nat.zero_add,h.cellAt i (by omega)];simp[d]
theorem ZR(t:Zi)(e:Zl)(i:e.length<=1048576):Gs 2 0 12 14 (YP t e) (VU t e) (fun _ _ _ _ _=>True):=by
 refine⟨?_,?_,?_,?_,?_,?_,?_,?_⟩
 ·rintro X c p ⟨g,rfl,a⟩ ⟨q,rfl,l⟩;exact JP t _ _ _ _ e X (a.row (Zx)) (l.row (Zx)) i
 ·intro lo N X c k _ a l;omega
 ·rintro L X j c ⟨g,rfl,a⟩ f;exact⟨g,rfl,a.below f⟩
 ·rintro L o X c ⟨g,rfl,a⟩ i;exact⟨g,rfl,a.mono i⟩
 ·rintro lo N X j c ⟨d,g,rfl,h,a⟩ m n;refine⟨⟨Zm d.1 m,Zm d.2 m⟩,g,rfl,h,Ak a (fun b f=> ?_)⟩;cases f;exact n g (a.lt g rfl).1 h
 ·rintro lo N X j c K _ _ _;trivial
 ·rintro lo N X c ⟨d,g,rfl,h,a⟩;exact⟨d.1,g,rfl,Eo.gd a⟩
 ·rintro L X c ⟨g,rfl,_⟩;exact⟨rfl,by simp[Value.oneCell']⟩
theorem YQ(t:Zi)(a:Zl)(p:a.length<=1048576)(lo N:Nat)(X:Zh)(c:Zj)(k:Nat)(h:VU t a lo N X c)(l:1<=k)(n:k<=90000000):
 Calls prog 14 #[.agg c.toArray,Zg k] X fun e b=>(∃K:Nat,e=.returned (Zg K))/\Below lo X b/\∀q,N<=q->q<X.heap.size->b.heap[q]?=X.heap[q]?:=by
 obtain⟨m,g,rfl,o,d⟩:=h;refine(MT t (some ⟨g,0,none⟩) a.length a.length k lo _ X d l (by omega)).mono ?_;rintro e b ⟨rfl,_,i⟩;have f:=Tn.grown (V:=[g]) i (by simp);exact⟨⟨k+a.length,by simp⟩,f.below m.2 (by have:=(d.lt g rfl).1;simp;omega),fun q r j=>f.block q j (by simp;omega)⟩
theorem Aal(t:Zi)(c:Zk)(f:Nat)(a:Zl)(w:Zh)(b:Ad w w.heap.size c a)(o:t.size<=maxLen)(m:a.length<=maxLen)(n:∀s∈a,s.size<=maxLen)(X:Zh)(l:Int)(k:0<=l)(g:l<=1048576)(i:Zz w X):
 Calls prog 5 #[.agg #[.string t,.slice c a.length f],Zg l] X fun e j=>∃r:Int,e=.returned (Zg r)/\Zz X j/\(0<=r->a.length<=1048576):=by
 by_cases hfit:(t.size:Int)+a.length+aq a<=l
 ·refine(JN t c f a l X (b.af i) g hfit).mono ?_;rintro e p ⟨rfl,d⟩;exact⟨_,rfl,d,fun _=>by omega⟩
 ·refine(KD t c f a l X (b.af i) o m n k g (by omega)).mono ?_;rintro e p ⟨rfl,d⟩;exact⟨_,rfl,d,fun h=>by omega⟩
theorem Aam(t:Zi)(h:Zk)(j:Nat)(a:Zl)(w:Zh)(c:Ad w w.heap.size h a)(l:a.length<=1048576)(X:Zh)(k:Zz w X):
 Calls prog 8 #[.agg #[.string t,.slice h a.length j]] X fun e b=>∃d:Zj,e=.returned (.agg d.toArray)/\YP t a b.heap.size b d/\VU t a X.heap.size b.heap.size b d/\Zz X b:=by
 refine(JO t h j a X (c.af k) l).mono ?_;rintro e b ⟨g,rfl,m,f,i⟩;exact⟨[.string t,Za g a.length a.length],rfl,⟨g,rfl,Eo.gd f⟩,⟨⟨Zx,i.size⟩,g,rfl,(f.lt g rfl).2,f⟩,i⟩
theorem CZ.gu{v:Vd}{r:Rs}(h:CZ v r):FL v.sw v.now v.given v.ae v.ks v.ps v.ls:=by have a:=h.dx;rw[h.same.1.1]at a;exact a
theorem CT.srows{w:Zh}{base b:Nat}{f d a:Zk}{j i:Nat}{g:List (Kd×Value)}{e:List Pd}{c:List Ld}(h:CT w base b f d a j i g e c):BJ w w.heap.size f d a (g.map (·.1)) e c:=⟨h.dh,h.fj,h.fm⟩
def ZSp(r:Rs)(xa:Zk)(_:Nat)(pa:Zk)(pc:Nat)(la:Zk)(lc:Nat)(X:Zh):Prop:=
 ∃base b zs,zs.map (·.1)=r.ks/\CT X base b xa pa la pc lc zs r.ps r.ls
def KSp(v:Vd)(cs:Zj)(V:List Nat)(X:Zh):Prop:=
 ∃base b p l tc pc lc zs,cs=[Zg v.sw,Zg v.now,Zg v.given,Zg v.ae,.slice (some ⟨b,0,none⟩) zs.length tc,.slice (some ⟨p,0,none⟩) v.ps.length pc,.slice (some ⟨l,0,none⟩) v.ls.length lc]/\V=[l]/\zs.map (·.1)=v.ks/\CT X base b (some ⟨b,0,none⟩) (some ⟨p,0,none⟩) (some ⟨l,0,none⟩) pc lc zs v.ps v.ls
theorem Eg.sz{b f given ae:Int}{e:List Kd}{p:List Pd}{n:List Ld}{m:Int}{s o:Zi}{g:Int}{text:Zi}{refs:Zl}{r:Rs}(i:1<=b)(h:∀k∈e,(k.sum.size:Int)=b)(c:Eg b f given ae e p n m s o g text refs r):∀k∈r.ks,(k.sum.size:Int)=b:=by
 rcases c with⟨rfl,_,l,j,u,v,c,rfl⟩|⟨_,_,d,rfl⟩|⟨_,_,rfl⟩|⟨_,_,l,j,rfl⟩|⟨_,_,rfl⟩|⟨_,x,rfl⟩|⟨_,_,_,rfl⟩
 ·rcases c with⟨_,_,_,_,rfl,rfl⟩|⟨t,q,w,rfl,rfl⟩
  ·exact h
  ·intro k a;rcases List.mem_append.1 (Hi.1 a)with a|a
   ·exact h k a
   ·rw[List.mem_singleton]at a;subst a;exact Gq _ _ _ i
 ·exact h
 ·exact h
 ·exact h
 ·exact h
 ·exact h
 ·exact fun k a=>h k (List.filter_sublist.subset a)
theorem YR{g:Int}{b:List Kd}(h:OM g b):∀k∈b,∀s∈k.refs,s≠⟨#[]⟩:=fun k d x f e=>by have a:=BB (h k d);obtain⟨i,c⟩:=List.getElem?_of_mem f;have:=a.size c;rw[e]at this;have j:=a.lo;have l:((⟨#[]⟩:Zi).size:Int)=0:=rfl;omega
theorem XB(v:Vd)(e:Ed)(G:Zk)(rc g k F N O R k5:Nat)(w:Zh)(h1:Cc w w.heap.size (JB g k F N O R k5 v) v)(h2:Gd w ⟨F,0,none⟩ v.ks)(K:Cy v)(zE:Ad w w.heap.size G e.rf)(zN:G=none->e.rf.length=0/\rc=0)(hl:e.rf.length<=1048576)(ht:e.tx.size<=maxLen)(hn:e.nm.size<=maxLen)(zJ:e.kd=1):
 Calls prog 21 #[.agg (Yd v (some ⟨g,0,none⟩) v.ss.length (some ⟨k,0,none⟩) v.tt.length (some ⟨F,0,none⟩) v.ks.length (some ⟨N,0,none⟩) v.ps.length (some ⟨O,0,none⟩) v.ls.length (some ⟨R,0,none⟩) v.qs.length (some ⟨k5,0,none⟩) v.ms.length),.agg (Ym e.kd e.s e.nm e.num e.tx G e.rf.length rc)] w (Gx v e w):=by
 have J:∀X,Zz w X->Cc X X.heap.size (JB g k F N O R k5 v) v:=fun X m=>h1.af m;have hS:∀X,Zz w X->Ad X X.heap.size G e.rf:=fun X m=>zE.af m
 refine ZN v e _ _ _ _ _ _ _ _ _ _ _ _ _ _ _ _ _ G rc (KSp v) ZSp w ⟨K.s,K.t⟩ (fun X m=>LD v (JB g k F N O R k5 v) X (J X m) ⟨(fun e=>by cases e),(fun e=>by cases e),Zx⟩ K) ?_ (fun X m=>Ul e.kd e.s e.nm e.num e.tx G rc e.rf v.wd X (hS X m) hl ht hn) ?_ ?_ ?_ ?_ ?_ zJ ?_ (fun a X m=>Sy e.kd e.s e.nm e.num e.tx G rc e.rf v.wd X (hS X m) hl ht hn) ?_ ?_ ?_ ?_
 ·rintro⟨r,a⟩ X m;have f:=a.gu;have W:∀Z,Zz X Z->Zz w Z:=fun Z C=>m.trans (C.mono m.size)
  refine(PL v (JB g k F N O R k5 v) X (fun Z C=>Tp g k _ _ v.ss v.tt Z (J Z (W Z C)).s (J Z (W Z C)).t K.s K.t) (fun Z C=>KQ v.sw v.now v.given v.ae F 0 N 0 O 0 _ _ _ v.ks v.ps v.ls Z (J Z (W Z C)).st (h2.ak h1.st.k (W Z C)) f.bn.len f.np f.nl f.dt) (fun Z C=>El v.ph v.ag v.at_ v.ro R k5 _ _ v.qs v.ms Z (J Z (W Z C)).q (J Z (W Z C)).m K.r)).mono ?_;rintro o H ⟨S,U,T,P,L,Q,M,rs,rfl,I,h5,h4⟩
  obtain⟨sb,n1,zX,rfl⟩:=h5 S (by simp);obtain⟨ub,n2,yA,rfl⟩:=h5 U (by simp);obtain⟨qb,n3,zC,rfl⟩:=h5 Q (by simp);obtain⟨mb,n4,zB,rfl⟩:=h5 M (by simp);obtain⟨_,_,e1,_⟩:=I.s.row;obtain⟨_,_,e2,_⟩:=I.u.row;obtain⟨_,_,e3,_⟩:=I.q.row;obtain⟨_,_,e4,_⟩:=I.m.row;cases e1;cases e2;cases e3;cases e4;exact⟨sb,zX,ub,yA,T,P,L,qb,zC,mb,zB,rs,rfl,I,h4⟩
 ·rintro⟨r,a⟩ X m;have f:=a.gu;refine(KQ v.sw v.now v.given v.ae F 0 N 0 O 0 _ _ _ v.ks v.ps v.ls X (J X m).st (h2.ak h1.st.k m) f.bn.len f.np f.nl f.dt).mono ?_;rintro o H ⟨T,P,L,rs,rfl,u,hv,t⟩;obtain⟨b,p,l,tc,E,D,B,rfl,rfl,rfl,j,n,zK,zM⟩:=CT.of u hv t.size;exact⟨_,[l],rfl,t,by simp;exact⟨zK,zM⟩,_,b,p,l,tc,E,D,B,rfl,rfl,j,n⟩
 ·rintro cs V X H ⟨base,b,p,l,tc,E,D,B,rfl,rfl,j,n⟩ t;exact⟨base,b,p,l,tc,E,D,B,rfl,rfl,j,n.below t⟩
 ·rintro⟨r,a⟩ q cs V X m ⟨base,b,p,l,tc,E,D,B,rfl,rfl,j,n⟩;have f:=a.dx;have zO:=a.same.1.1;have ha:=f.gy q ht;rw[←j]at ha;rw[←zO];refine(Kj base v.wd v.now v.given v.ae b _ _ _ tc E D B v.ps v.ls e.s e.nm e.tx e.num e.rf G rc X e.kd n ha (fun k hk=>f.dt k (by rw[←j];exact hk)) (hS X m) zN).mono ?_;rintro o H ⟨Y,⟨c,p',q',zF,rfl⟩|⟨d,b1,zY,zZ,yB,zV,zW,zT,zU,s,rfl,zR,zH⟩⟩
  ·rw[j]at zF;exact⟨Y,_,rfl,.inl ⟨c,p',q',zF,rfl⟩⟩
  ·rw[j]at s;exact⟨Y,[_,_,_,_,_,_,_,_,_,_,_,_],rfl,.inr ⟨d,zY,zZ,zV,zW,zT,zU,s,rfl,base,b1,yB,zR,zH⟩⟩
 ·rintro d xa xc pa E la D X ⟨r,a⟩ q s ⟨base,b,B,j,n⟩ cb H t Y;have zA:=YR (a.tok.step q s);exact⟨base,b,B,j,n.gi t (fun z zS=>zA z.1 (by rw[←j];exact List.mem_map.2 ⟨z,zS,rfl⟩)) Y⟩
 ·rintro d xa xc pa E la D X ⟨base,b,B,j,n⟩ H t;exact⟨base,b,B,j,n.below t⟩
 ·rintro⟨r,a⟩ q d xa xc pa E la D X s ⟨base,b,B,j,n⟩;have f:=a.dx.step q s;have zA:=a.tok.step q s;have hk:=n.dh;rw[j]at hk;exact QN v.wd d.now d.given d.ae xa xc _ _ d.ks X hk f.bn.len (fun i k hi=>zA k (Zs hi))
 ·rintro⟨r,a⟩ q d xa xc pa E la D X s ⟨base,b,B,j,n⟩;have f:=a.dx.step q s;have zG:=n.srows;rw[j]at zG;refine(GH v.wd d.now d.given d.ae xa pa la xc E D d.ks d.ps d.ls X zG (fun A u=> ?_) (GP n.po) (GP n.lo) f.bn.len f.np f.nl f.dt).mono ?_
  ·rcases n.tb with h|h
   ·rw[h]at u;cases u;rw[←j];exact n.z.some
   ·rw[←j,h];intro i k hi;simp at hi
  ·rintro o H ⟨T,P,L,rs,rfl,u,_,t⟩;exact⟨T,P,L,rs,rfl,u,t⟩
 ·rintro⟨r,a⟩ q d X T2 P2 L2 yD n2 qb zC mb zB s u hq hm;have f:=a.dx.step q s;obtain⟨za,zc,rfl⟩:=Ar u.ai;obtain⟨ya,yc,rfl⟩:=Ar u.pins;obtain⟨ka,kc,rfl⟩:=Ar u.an;refine(PB v.wd d.now d.given d.ae za zc _ _ d.ks (e.held d) v.ph v.ag v.at_ v.ro qb mb zC zB v.qs v.ms X u.get.k (by have:=f.bn.len;omega) hq.fh hm.fh K.r a.round.dy.nq).mono ?_;rintro o H ⟨x,cx,y,cy,rfl,o1,o2,_,t⟩
  exact⟨t,_,_,rfl,Al.own o1,Al.own o2⟩
 ·rintro⟨r,a⟩ d s he;have zP:=a.wd.1;rcases s with⟨_,_,hl,hg,yC,b1,s,rfl⟩|⟨h,_⟩|⟨h,_⟩|⟨h,_⟩|⟨h,_⟩|⟨h,_⟩|⟨h,_⟩
  ·have I:=Gq e.tx e.rf v.wd zP;have zI:Bm e.tx e.rf v.wd=⟨#[]⟩:=he;rw[zI]at I;have h4:((⟨#[]⟩:Zi).size:Int)=0:=rfl;omega
  all_goals omega
 ·rintro⟨r,a⟩;refine⟨a.same.1.1,?_⟩;have:=IM a.log;rw[List.length_append]at this;exact this
theorem VA(v:Vd)(A:Zj)(e:Zi)(i:Zk)(j:Nat)(a:Zl)(n:Int)(w:Zh)(U:A.length=17)
 (s:∀X,Zz w X->Calls prog 22 #[.agg #[.string e,.slice i a.length j]] X fun o f=>∃g c,o=.returned (.agg #[.string e,Za g a.length c])/\Ad f f.heap.size (some ⟨g,0,none⟩) a/\Zz X f)
 (y:∀X g c,Zz w X->Ad X X.heap.size (some ⟨g,0,none⟩) a->Calls prog 21 #[.agg A.toArray,.agg (Ym 1 ⟨#[]⟩ ⟨#[]⟩ n e (some ⟨g,0,none⟩) a.length c)] X (Gx v ⟨1,⟨#[]⟩,⟨#[]⟩,n,e,a⟩ X)):
 Calls prog 6 #[.agg A.toArray,.agg #[.string e,.slice i a.length j],Zg n] w (Gx v ⟨1,⟨#[]⟩,⟨#[]⟩,n,e,a⟩ w):=by
 obtain⟨W,p⟩:∃W,W=((w.alloc (.cells A.toArray 46)).alloc (.cells #[.string e,.slice i a.length j] 51)).alloc (.cells Ya 48):=⟨_,rfl⟩;have T:=(Bh p).1;have P:=(Bh p).2.1;have N:Hid (Aa W w.heap.size A/\Aa W (w.heap.size+1) [.string e,.slice i a.length j]/\Aa W (w.heap.size+2) AQ):=⟨(Bh p).2.2.1,(Bh p).2.2.2.1,(Bh (m:=AQ) p).2.2.2.2⟩;have B:Hid (A.length=17):=U;have q:=Yx (Zn T P);have Q:=Yx p
 have H1:=Yx s;have H2:=Yx y;have I:Hid (∀X f,(Aa X w.heap.size A/\Aa X (w.heap.size+1) [.string e,.slice i a.length j])->Zz X f->Aa f w.heap.size A/\Aa f (w.heap.size+1) [.string e,.slice i a.length j]):=fun X f s y=>⟨Aa.same s.1 (y.block _ (s.1.fs B.o)),Aa.below s.2 y⟩;clear p U s y T P;go_enter func6,ntmps6;go_upto_region 1 with fail;rw[←Q.o];clear Q
 refine wp_region_held_drew (S:=fun X=>Aa X w.heap.size A/\Aa X (w.heap.size+1) [.string e,.slice i a.length j]) (by kernel_rfl) (show _/\_ from⟨N.o.1,N.o.2.1⟩) (fun F=> ?_);refine Di 0 ⟨some 7,.load 46 (.tmp 3),46,Dm,#[],none⟩ (.agg A.toArray) (by exact yieldsIf_load_mid (by rfl) 46 _ rfl w.heap.size 0 rfl A _ (fun X h=>h.1.range) underlying46 rfl (by rw[B.o];kernel_rfl)) (by exact F) ?_
 try simp only[Act.put,Zq,Zp,Zo]
 refine Br 1 ⟨some 8,.move (.tmp 2),3,Dm,#[],none⟩ (Zg n) (by exact F) ?_;try simp only[Act.put,Zq,Zp,Zo]
 refine Di 2 ⟨some 9,.load 51 (.tmp 4),51,Dm,#[],none⟩ (.agg #[.string e,.slice i a.length j]) (by exact yieldsIf_load_mid (by rfl) 51 _ rfl (w.heap.size+1) 0 rfl [.string e,.slice i a.length j] _ (fun X h=>h.2.range) underlying51 rfl (by kernel_rfl)) (by exact F) ?_;try simp only[Act.put,Zq,Zp,Zo]
 refine AM 3 ⟨some 10,.call {callee:=Callee.value (.func 22),args:= #[.tmp 9],argTypes:= #[51]},51,Dm,#[Ai 2],none⟩ (fun K l=> ?_);go_simp;refine(H1.o W.drew (q.o.1.drew)).mono ?_;rintro o w1 ⟨g,c,rfl,zA,M⟩;have r:Below W.heap.size W w1:=(Below.refl W.heap.size W).drew.trans M;try go_simp
 refine l.out _ _ (I.o _ _ F M) (fun L=> ?_);clear l K;try simp only[Act.put,Zq,Zp,Zo]
 refine Br 4 ⟨some 11,.build 67 #[(0,.const (Zg 1)),(3,.tmp 8),(4,.tmp 10)],67,Dm,#[Ai 1,Ai 3],none⟩ (.agg (Ym 1 ⟨#[]⟩ ⟨#[]⟩ n e (some ⟨g,0,none⟩) a.length c)) (by exact L) ?_;try simp only[Act.put,Zq,Zp,Zo]
 refine AM 5 ⟨some 12,.call {callee:=Callee.value (.func 21),args:= #[.tmp 7,.tmp 11],argTypes:= #[46,67]},48,Dm,#[Ai 0,Ai 4,⟨3,.chain⟩],none⟩ (fun K l=> ?_);go_simp;refine(H2.o w1 g c (q.o.1.trans (r.mono q.o.1.size)) zA).mono ?_;rintro o z ⟨d,vs,zC,rfl,ha,hb⟩;have k:=Jz (d:=d) (WW (ha [] z (by simp) (Tn.of (Below.refl _ _))));obtain⟨D,E⟩:∃t,t=dL d vs:=⟨_,rfl⟩;rw[←E]at k;rw[←E];have HD:=Yx E
 clear E;try go_simp
 refine l.out _ _ (I.o _ _ L hb) (fun u=> ?_);clear l K;try simp only[Act.put,Zq,Zp,Zo]
 have J:Below W.heap.size W z:=r.trans (hb.mono r.size);have Z:=Aa.below (v:=Zf) N.o.2.2 J;obtain⟨O,x⟩:∃Y,Y=z.setCells (w.heap.size+2) 0 D.toArray.toList:=⟨_,rfl⟩;have G:Tn [w.heap.size+2] z O:=by rw[x];exact Ax _ _ _ _
 have x9:Aa O (w.heap.size+2) D:=by rw[x];exact Z.aw D (by rw[k.1];rfl)
 have zB:z.there (w.heap.size+2) 0 D.toArray.size:=by rw[show D.toArray.size=22 from by rw[List.size_toArray];exact k.1];exact Z.there
 have R:=q.o.1.trans (J.mono q.o.1.size);have P:=q.o.2;have zF:=r.size;have H:Hid (Gx v ⟨1,⟨#[]⟩,⟨#[]⟩,n,e,a⟩ w (.returned (.agg D.toArray)) O):=⟨d,vs,zC,by rw[HD.o],fun V f hV hT=>ha ((w.heap.size+2)::V) f (fun b C=>by
  rcases List.mem_cons.1 C with h|h
  ·omega
  ·have:=hV b h;omega) ((G.mono (by simp)).trans (hT.mono (by simp;intro b C;exact .inr C))),R.trans (G.below R.size (by simp))⟩
 refine AM 6 ⟨none,.store 48 (.tmp 6) (.tmp 12),0,Dm,#[Ai 5,⟨5,.chain⟩,Ae 0,Ae 1,Ae 2,Ae 3,Ae 4,Ae 5],none⟩ (fun K l=> ?_);rw[if_pos (by rfl)];refine wp_store_mid 48 _ _ rfl (w.heap.size+2) 0 D.toArray rfl rfl zB (by rw[List.size_toArray,k.1];kernel_rfl) (all_oneCell_toArray k.2) ?_;rw[←x];clear x
 refine l.out _ _ ⟨Aa.same u.1 (G.block _ (u.1.fs B.o) (by simp)),Aa.same u.2 (G.block _ u.2.lt (by simp))⟩ (fun zE=> ?_);clear l K;try simp only[Act.put]
 refine wpAnyH_done (by kernel_rfl) ?_ _;go_wp2_with fail;exact bodyPost_ret (BL results6 _ _ (w.heap.size+2) D _ rfl (Aa.range x9) underlying48 rfl (by rw[k.1];kernel_rfl)) rfl H.o
theorem VB(v:Vd)(g k d m p i l:Nat)(b:Zi)(f:Zk)(q:Nat)(a:Zl)(n:Int)(w:Zh)(t:Cc w w.heap.size (JB g k d m p i l v) v)(y:Gd w ⟨d,0,none⟩ v.ks)(z:Cy v)(s:Ad w w.heap.size f a)(r:f=none->a.length=0/\q=0)(u:a.length<=1048576)(B:b.size<=maxLen):
 Calls prog 6 #[.agg (Yd v (some ⟨g,0,none⟩) v.ss.length (some ⟨k,0,none⟩) v.tt.length (some ⟨d,0,none⟩) v.ks.length (some ⟨m,0,none⟩) v.ps.length (some ⟨p,0,none⟩) v.ls.length (some ⟨i,0,none⟩) v.qs.length (some ⟨l,0,none⟩) v.ms.length),.agg #[.string b,.slice f a.length q],Zg n] w (Gx v ⟨1,⟨#[]⟩,⟨#[]⟩,n,b,a⟩ w):=
 VA v (Yc v (some ⟨g,0,none⟩) v.ss.length (some ⟨k,0,none⟩) v.tt.length (some ⟨d,0,none⟩) v.ks.length (some ⟨m,0,none⟩) v.ps.length (some ⟨p,0,none⟩) v.ls.length (some ⟨i,0,none⟩) v.qs.length (some ⟨l,0,none⟩) v.ms.length) b f q a n w rfl (fun X j=>(Kc b f q a X (s.af j) r u).mono (fun o X' ⟨g,c,h,ho,hb⟩=>⟨g,c,h,Ad.own ho,hb⟩)) (fun X x c j A=>XB v ⟨1,⟨#[]⟩,⟨#[]⟩,n,b,a⟩ (some ⟨x,0,none⟩) c g k d m p i l X (t.af j) (y.ak t.st.k j) z A (fun e=>by cases e) u B (Nat.zero_le _) rfl)
theorem Gx.lawT{v:Vd}{e:Ed}{w a:Zh}{o:Ending}(k:Cy v)(h:Gx v e w o a):∃(d:Dd) (ds:Zj),o=.returned (.agg ds.toArray)/\(Cy v/\Gz v e d)/\(∀V Y,(∀b∈V,b<w.heap.size)->Tn V a Y->VT d Y.heap.size Y ds)/\Zz w a:=by obtain⟨d,l,c,rfl,f,g⟩:=h;exact⟨d,_,rfl,⟨k,c⟩,fun V Y j i=>⟨l,rfl,f V Y j i⟩,g⟩
namespace ExactPut
theorem walk(v:Vd)(a:Va)(d:Zi)(p:Zk)(u:Nat)(b:Zl)(n:Int)(w:Zh)(L:Env w)(G:Cc w w.heap.size a v)(O:Vo v)(j:Ad w w.heap.size p b)(B:d.size<=maxLen)(M:b.length<=maxLen)(P:∀s∈b,s.size<=maxLen):
 Calls prog 3 #[.agg (Yg v a),.agg #[.string d,.slice p b.length u],Zg n] w fun e Q=>e=.returned (.bool true)/\Zz w Q:=by
 refine walk_gen (D:=Dd) (fun o=>Cy v/\Gz v ⟨1,⟨#[]⟩,⟨#[]⟩,n,d,b⟩ o) (VS v) (Qm v) (fun _ _ _ _ _=>True) (YP d b) (VU d b) (fun _ _ _ _ _=>True) VT YL YM (Cy v) (b.length<=1048576) (Ye v a) [.string d,.slice p b.length u] n w rfl rfl (fun c=>ZO v c) (fun c=>ZR d b c) (fun o m=>ZP o (m.2.fit m.1)) (fun c lo N X x k h i r=>YQ d b c lo N X x k h i r) (fun o m=>YN o (m.2.fit m.1)) (fun o R h J=>h.2.dj J.2) (fun X f=>TO v a X (G.af f) O) (fun X l K i f=>Aal d p u b w j B M P X l K i f) (fun c X f=>TS v a w X G c f) (fun c X f=>Aam d p u b w j c X f) ?_ ?_
 ·rintro c C X x I f ⟨g,k,y,E,F,q,t,rfl,i,r⟩ ⟨z,rfl,A⟩;exact(VB v g k y E F q t d (some ⟨z,0,none⟩) b.length b n X i r c (A.row (Zx)) (fun e=>by cases e) C B).mono (fun o H h=>Gx.lawT c h)
 ·rintro c C X x I f ⟨g,k,y,E,F,q,t,rfl,i,r⟩ ⟨z,rfl,A⟩;have h:=WZ v (JB g k y E F q t v) d (some ⟨z,0,none⟩) b.length b n X i c (L.below f) A ⟨q,t,rfl,rfl⟩ C B;simp only[JB]at h;exact h.mono (fun o H h=>Hl.law c h)
end ExactPut
end Go.Proofs.YtckmnfhmoankmaaGreatDoor
