import Derived.Test.YtcfjcdpkpiidkaaGreatX30
import Derived.Test.YtcfjcdpkpiidkaaGreatX27
import Derived.Deep.CutBlock
set_option maxRecDepth 100000
set_option maxHeartbeats 16000000
namespace Go.Proofs.YtcfjcdpkpiidkaaGreat
open ChangeShapes WideShapes ChangeAt RowKit _root_.Go.Proofs.Tryz
variable{i k p:Int}{a:Zk}{e f:Zl}{c b n m q size:Nat}{v:Vd}{d l:Zj}{u:UR}{W X Y w wr:Zh}{V:List Nat}
theorem Jx:Ox v0:=⟨Lh,(fun k a=>by cases a),Jv⟩
theorem GR.ig{a:Int}{c:Int}(h:GR i a e f c v):∀k∈v.ks,Hj k:=by
 rcases h with⟨_,_,rfl⟩|⟨g,⟨_,_,rfl⟩|⟨r,d,_,rfl⟩⟩
 .exact Jx.sm
 .exact Jx.sm
 .exact SM (d.tok (by intro k b;cases b))
theorem GR.ic{b:Int}{c:Int}(h:GR i b e f c v):Gm v.ks v.ps v.ls:=by
 rcases h with⟨_,_,rfl⟩|⟨g,⟨_,_,rfl⟩|⟨r,a,_,rfl⟩⟩
 .exact Jv
 .exact Jv
 .exact SK (a.ok (Fs g.1.1 g.1.2)) (a.rx (Fs g.1.1 g.1.2) ⟨by simp[r0],by simp[r0],by simp[r0],by simp[r0],by simp[r0]⟩) (a.pn (by intro p d;cases d)) g.1.2
theorem Gm.sub{d c:List Kd}{f:List Pd}{e:List Ld}(h:Gm d f e)(b:c.Sublist d):Gm c f e:=
 ⟨⟨Zm b.length_le h.k.len,fun k a=>h.k.sum k (b.subset a),fun k a=>h.k.F k (b.subset a),fun k a=>h.k.B k (b.subset a),fun k a=>h.k.ref k (b.subset a)⟩,h.p,h.l,fun k a=>h.b k (b.subset a),Zm b.length_le h.n.1,h.n.2⟩
theorem ClTo.sub{b:Int}{e:List Pd}{d:List Ld}{free:Nat}{o:Option (UR×Nat)}(h:ClTo b e d free c n u o):∀p∈o,p.1.ks.Sublist u.ks:=by
 induction h with
 |fin n u h=>intro p a;cases a;exact List.Sublist.refl _
 |old n u h hr=>intro p a;cases a
 |full n u r h hr ht hd hf=>intro p a;cases a;exact List.Sublist.refl _
 |long n u r h hr ht hl=>intro p a;cases a
 |step n u r o h hr ht hq hm hf hs ih=>exact fun p a=>(ih p a).trans ht.sub
theorem Fg.ig{a:Int}(h:Fg v a (some (u,n)))(c:∀k∈v.ks,Hj k):∀k∈(AZ v u).ks,Hj k:=by
 rcases h with⟨_,h⟩|⟨r,d,_,h⟩
 .cases h
 exact fun k b=>c k ((h.sub _ rfl).subset b)
theorem Fg.ic{a:Int}(h:Fg v a (some (u,n)))(b:Gm v.ks v.ps v.ls):Gm (AZ v u).ks (AZ v u).ps (AZ v u).ls:=by
 rcases h with⟨_,h⟩|⟨r,c,_,h⟩
 .cases h
 exact b.sub (h.sub _ rfl)
def WQ(w:Zh)(o:Ending)(w':Zh):Prop:=∃vs,o=.returned (.agg vs.toArray)/\RV w.heap.size w' vs/\Zz w w'
theorem SO(A:Zj)(w:Zh)(s:RV m w A):Calls prog 80 #[.agg A.toArray] w (WQ w):=by
 obtain⟨v,a,⟨b,h,i⟩,rfl,c,d⟩:=s.E;refine(QX v _ _ _ _ _ (BE v.ss v.A v.A.length) w rfl (fun Y f=>DV v a Y (c.L f) d.cap b) ?_ (fun _ Y f=>US a.g a.X _ _ v.ss v.A Y (c.L f).s (c.L f).t d.s.2 d.t.2 b.s b.t b.ss b.A)).mono ?_
 .intro q Y f;refine(EV v a Y ((d.cp c b q).below f)).mono ?_;rintro e x ⟨S,U,T,P,L,Q,M,g,rfl,j,_,l⟩;exact⟨S,U,T,P,L,Q,M,g,rfl,j,l⟩
 .rintro e t ⟨u,S,U,T,P,L,Q,M,g,r,rfl,n,o⟩;refine⟨_,rfl,n.rv ?_,o⟩;rcases r with⟨_,rfl⟩|⟨_,rfl⟩
  .exact Jx
  .obtain⟨c,d⟩:=Li (k:=v.A.length) b.ss b.A;exact⟨⟨c,by simp[Om],d,by simp[Om],b.R,b.r,b.rn⟩,h,i⟩
theorem Un(m i:Int)(a b:Zk)(c d:Nat)(g h:Zl)(w:Zh)(t:Ab w w.heap.size a g)(s:Ab w w.heap.size b h)(q:a=none->g.length=0/\c=0)(r:b=none->h.length=0/\d=0)(f:Wh g h):
 Calls prog 48 #[Zg m,Zg i,.agg #[.slice a g.length c,.slice b h.length d]] w fun e k=>∃c l,e=.returned (.tuple #[.agg l.toArray,Zg c])/\RV w.heap.size k l/\Zz w k:=by
 refine(MC m i a b c d g h w t s q r f.s f.t f.ss f.A).mono ?_;rintro e k ⟨c,u,S,U,T,P,L,Q,M,v,j,rfl,n,o⟩;exact⟨c,Bn u S U T P L Q M,rfl,n.rv ⟨j.fit f,j.ig,j.ic⟩,o⟩
theorem Uo(A:Zj)(k:Int)(w:Zh)(G:RV m w A)(s:0<=k):Calls prog 81 #[.agg A.toArray,Zg k] w (WQ w):=by
 obtain⟨v,a,⟨b,H,I⟩,rfl,q,f⟩:=G.E;obtain⟨l,o⟩:=Li (k:=k) b.ss b.A;refine(SC v _ _ _ k (BE v.ss v.A k) Ox w rfl (fun Y g=>DV v a Y (q.L g) f.cap b) (fun _ Y g=> ?_) (fun _ Y u n g d=> ?_)).mono ?_
 .have i:=q.L g;rcases hta:a.X with _|A
  .obtain⟨j,x⟩:=f.t.2 hta;have y:=List.eq_nil_of_length_eq_zero j;rw[j,x,y];exact RH a.g _ v.ss k s Y i.s f.s.2 b.s b.ss
  .have r:=i.t;rw[hta]at r;exact RG a.g A _ _ v.ss v.A k s Y i.s r f.s.2 b.s b.t b.ss b.A f.t.1
 .obtain⟨a,c,rfl,F,E⟩:=Vu d;refine(MC v.wd v.lim a none c 0 (BE v.ss v.A k) [] Y F (.inl rfl) E (fun _=>⟨rfl,rfl⟩) l Yu o Yu).mono ?_;rintro e K ⟨c,u,S,U,T,P,L,Q,M,t,d,rfl,z,B⟩;exact⟨c,u,S,U,T,P,L,Q,M,t,⟨d.fit ⟨l,Yu,o,Yu⟩,d.ig,d.ic⟩,rfl,z,B⟩
 .rintro e J ⟨u,S,U,T,P,L,Q,M,t,d,rfl,C,D⟩;refine⟨_,rfl,C.rv ?_,D⟩;rcases d with⟨_,rfl⟩|⟨_,h⟩
  .exact Jx
  .exact h
theorem Fg.fitv{b:Int}(h:Fg v b (some (u,n)))(c:Gu v):Gu (AZ v u):=by
 rcases h with⟨_,h⟩|⟨r,e,_,h⟩
 .cases h
 have a:=h.civ (Ol e) _ rfl;have i:=a.dl;have g:=a.df;have j:=Kr (fun k f=>(a.ok.B k f).1);have l:=Eb e.log;have m:=a.ql;have o:=a.ml;rw[List.length_append]at l g;simp only at i g j m o;refine⟨c.s,?_,c.ss,?_,⟨by show u.ks.length<=_;omega,fun k f=>by have:=(a.ok.B k f).1;omega,c.R.p,c.R.l⟩,⟨by show u.D.length<=_;omega,by show u.ms.length<=_;omega⟩,by show Fm u.ks<=_;omega⟩
 .show(v.A++u.S.map (ID v.wd)).length<=_;rw[List.length_append,List.length_map];omega
 .intro s d;rcases List.mem_append.1 d with d|d
  .exact c.A s d
  .obtain⟨x,_,rfl⟩:=List.mem_map.1 d;have:=Uk v.wd x;omega
theorem SP(A:Zj)(k:Int)(w:Zh)(B:RV m w A):Calls prog 82 #[.agg A.toArray,Zg k] w fun e d=>∃c q n D,e=.returned (.agg (IE c q n D).toArray)/\D.oneCell'=true/\RV w.heap.size d q/\Zz w d:=by
 obtain⟨v,a,⟨f,s,t⟩,rfl,g,i⟩:=B.E;refine(Ra v a k w g i.cap f (fun h=>i.cp g f h)).mono ?_;rintro e d ⟨o,x,b,rfl,j,l⟩;rcases o with _|⟨u,n⟩
 .have r:x=z20 1:=j;subst r;exact⟨1,_,0,Zb,rfl,rfl,(AG.nil d w.heap.size).rv Jx,l⟩
 .obtain⟨S,U,T,P,L,Q,M,C,D,rfl,y,z,_⟩:=j;obtain⟨_,_,rfl,_⟩:=z.row;exact⟨0,_,n,_,rfl,rfl,y.rv ⟨b.fitv f,b.ig s,b.ic t⟩,l⟩
theorem Vz(n:Nat)(w:Zh):RV n w BB:=⟨v0,Jx,fun _ a _ _=>(AG.nil a 0).io⟩
theorem VA{d k:Dd}{a:Zj}(l:Aa W q (dL k BB))(f:q<W.heap.size)(e:Zz W X)(g:RV W.heap.size X a):
 ((dL d a).length=22/\∀u∈dL d a,u.oneCell'=true)/\X.there q 0 (dL d a).toArray.size/\∃j i,Aa (X.setCells q 0 (dL d a).toArray.toList) q (dL j i)/\RV W.heap.size (X.setCells q 0 (dL d a).toArray.toList) i/\Tn [q] W (X.setCells q 0 (dL d a).toArray.toList):=by
 have c:=Lj (d:=d) g.len;have h:=AF q (dL d a) 0 X;have b:=Aa.same l (e.block q f);refine⟨c,?_,d,a,b.ar _ (by rw[c.1];rfl),g.J h (by simpa using f),(Tn.of e).trans h⟩;rw[show(dL d a).toArray.size=22 from by rw[List.size_toArray];exact c.1];exact b.there
theorem Is{b:Zi}{v:Value}(h:∃g c,∃a:Zl,v=.agg #[.string b,Yz g a.length c]/\Ab X X.heap.size (some ⟨g,0,none⟩) a/\a.length<=4)(i:Zz X Y):∃g c,∃a:Zl,v=.agg #[.string b,Yz g a.length c]/\Ab Y Y.heap.size (some ⟨g,0,none⟩) a/\a.length<=4:=by obtain⟨g,c,a,d,e,f⟩:=h;exact⟨g,c,a,d,e.L i,f⟩
theorem It{v:Value}(h:∃d a,v=.agg (dL d a).toArray/\RV n X a)(e:Zz X Y):∃d a,v=.agg (dL d a).toArray/\RV n Y a:=by obtain⟨d,a,b,c⟩:=h;exact⟨d,a,b,c.below e⟩
theorem PI{p:Nat->Prop}{a:Zj}(n:Aa W q BB)(g:Tn V W X)(l:q∉V)(j:w.heap.size<=q)(k:∀b∈V,w.heap.size<=b)(i:q<W.heap.size)(c:Zz w W)(f:a.length=17)(m:CL p (X.setCells q 0 a.toArray.toList) a):
 X.there q 0 a.toArray.size/\Aa (X.setCells q 0 a.toArray.toList) q a/\∃h,Ending.returned (.agg a.toArray)=.returned (.agg h.toArray)/\CL p (X.setCells q 0 a.toArray.toList) h/\Zz w (X.setCells q 0 a.toArray.toList):=by
 have d:=Aa.same n (g.block q i l);have e:=c.trans (g.below c.size k);refine⟨?_,d.ar a (by rw[f];rfl),a,rfl,m,e.trans ((AF q a 0 X).below e.size (by simpa using j))⟩;rw[show a.toArray.size=17 from by rw[List.size_toArray];exact f];exact d.there
theorem MU{p:Nat->Prop}{a:Zj}(l:Aa W q BB)(m:Tn V W X)(k:q∉V)(g:w.heap.size<=q)(h:∀b∈V,w.heap.size<=b)(d:q<W.heap.size)(c:Zz w W)(e:RV W.heap.size X a)(j:∀b,p b->b<w.heap.size):
 X.there q 0 a.toArray.size/\Aa (X.setCells q 0 a.toArray.toList) q a/\∃f,Ending.returned (.agg a.toArray)=.returned (.agg f.toArray)/\CL p (X.setCells q 0 a.toArray.toList) f/\Zz w (X.setCells q 0 a.toArray.toList):=
 PI l m k g h d c e.len.1 ((e.J (AF q a 0 X) (by simpa using d)).p (fun b i=>by have:=j b i;have:=c.size;omega))
theorem WJ{p:Nat->Prop}{a:Zj}(l:Aa W q BB)(h:Tn V W X)(k:q∉V)(d:w.heap.size<=q)(e:∀b∈V,w.heap.size<=b)(j:q<W.heap.size)(c:Zz w W)(g:CL p w a):
 X.there q 0 a.toArray.size/\Aa (X.setCells q 0 a.toArray.toList) q a/\∃i,Ending.returned (.agg a.toArray)=.returned (.agg i.toArray)/\CL p (X.setCells q 0 a.toArray.toList) i/\Zz w (X.setCells q 0 a.toArray.toList):=by
 have f:=c.trans (h.below c.size e);exact PI l h k d e j c g.zero.len.1 (g.below (f.trans ((AF q a 0 X).below f.size (by simpa using d))))
theorem Up{p:Nat->Prop}(A:Zj)(r P J H:Int)(N L:Zi)(w:Zh)(hm:∀b,p b->b<w.heap.size)(hv:CL p w A)(ht:N.size<=16)(yD:0<=P)(yI:P<8)(hn:L.size<=1)(zI:0<=J)(yG:J<40):
 Calls prog 50 #[.agg A.toArray,.agg #[Zg r,.string N,Zg P,.string L,Zg J,Zg H]] w fun e w'=>∃j,e=.returned (.agg j.toArray)/\CL p w' j/\Zz w w':=by
 obtain⟨I,zF⟩:=Af (((w.alloc (.cells A.toArray 69)).alloc (.cells #[Zg r,.string N,Zg P,.string L,Zg J,Zg H] 102)).alloc (.cells Xp 69));obtain⟨W4,zH⟩:=Af (I.alloc (.cells Xk 124));obtain⟨W,hW⟩:=Af (W4.setCells I.heap.size 0 (Xj 1).toArray.toList);have b3:=(Cv zF).1;have z3:=(Cv zF).2.1;have b4:=(AL zH).1;have z4:=(AL zH).2.1
 have x4:Aa W4 I.heap.size En:=(AL (l:=En) zH).2.2;have t9:Tn [I.heap.size] W4 W:=by rw[hW];exact AF _ _ _ _
 have zW:Hid (W4.there I.heap.size 0 22):=x4.there;have hs:∀{B:Nat} {v:Value} {l:Zj},B<I.heap.size->Aa I B (v::l)->Aa W B (v::l):=fun hB h=>Aa.same (Aa.below h b4) (t9.block _ Yv Yt);have zV:=hv.zero.len.1;have hA:Aa W w.heap.size A:=by
  obtain⟨c,l,hl⟩:∃c l,A=c::l:=by cases A with|nil=>simp at zV|cons c l=>exact⟨c,l,rfl⟩
  have:=(Cv zF).2.2.1;rw[hl]at this |-;exact hs Yv this
 have HX:Hid (Aa W w.heap.size A/\Aa W (w.heap.size+1) [Zg r,.string N,Zg P,.string L,Zg J,Zg H]/\Aa W (w.heap.size+1+1) BB/\Aa W I.heap.size (dL (Ew 1 v0 ⟨#[]⟩ ⟨#[]⟩) BB)):=⟨hA,hs Yv (Cv zF).2.2.2.1,hs Yv (Cv (m:=BB) zF).2.2.2.2,by rw[hW];exact x4.ar _ rfl⟩;have bW:Below w.heap.size w W:=b3.trans ((b4.mono b3.size).trans (t9.below Yv Yt))
 have R:Hid (Zz w W/\I.heap.size=w.heap.size+3/\W.heap.size=w.heap.size+4):=⟨bW,z3,by rw[hW,Iw];omega⟩;have S:Hid (A.length=17):=zV;have HV:Hid (CL p w A):=hv;have zZ:Hid (∀u∈A,u.oneCell'=true):=hv.zero.len.2;have zX:=Yw zF;have zU:=Yw zH;have HW:=Yw hW;clear hW hv zF zH b3 z3 b4 z4 x4 t9 hs hA zV bW;go_enter func50,ntmps50;go_upto_region 1 with fail;rw[<-zX.o]
 go_upto_region 2 with(refine wpList_store_mid rfl 124 _ _ rfl I.heap.size 0 (Xi 1) rfl rfl (by rw[<-zU.o];exact zW.o) Yr Yr ?_);rw[<-zU.o,<-HW.o];clear zX zU HW zW;obtain⟨y0,_⟩:=HX.o.2.1 0 _ rfl
 go_upto_block 0 with fail
 go_cut [] (fun wx=>Hid (∃d j,Aa wx I.heap.size (dL d j)/\RV W.heap.size wx j/\Tn [I.heap.size] W wx))
 case first=>
  have zA:Hid (RV 0 W A):=(HV.o.below R.o.1).zero;obtain⟨u,a,hf,hA,zC,yC⟩:=zA.o.E;have HK:Hid (∀X,Zz W X->AQ X X.heap.size a.U u.ks/\AN X X.heap.size a.K u.ls):=fun X hX=>⟨(zC.L hX).R.k,(zC.L hX).R.l⟩;have M:Hid (∀X,Zz W X->Aa X w.heap.size A):=fun X hX=>Aa.same HX.o.1 (hX.block _ (by have:=R.o;omega))
  have zB:Hid (∀X,Zz W X->X.rangeAt w.heap.size 4 (Yh u.P u.E u.G u.C a.U u.ks.length a.W a.N u.ps.length a.T a.K u.ls.length a.Q)):=fun X hX=>by have h:=M.o X hX;rw[hA]at h;exact Aa.fh [Zg u.wd,Zg u.lim,.slice a.g u.ss.length a.sc,.slice a.X u.A.length a.Z] (Yh u.P u.E u.G u.C a.U u.ks.length a.W a.N u.ps.length a.T a.K u.ls.length a.Q) (Xv u.H a.i u.D.length a.qc a.j u.ms.length a.mc u.O u.M u.ro) h
  have O:Hid (∀X,Zz W X->Aa X (w.heap.size+1) [Zg r,.string N,Zg P,.string L,Zg J,Zg H]):=fun X hX=>Aa.below HX.o.2.1 hX;have zJ:Hid (u.ks.length<=1048576/\u.ls.length<=1048576):=⟨hf.fit.R.k,hf.fit.R.l⟩
  have T:Hid (∀(d:Dd) j X,Zz W X->RV W.heap.size X j->((dL d j).length=22/\∀u∈dL d j,u.oneCell'=true)/\X.there I.heap.size 0 (dL d j).toArray.size/\∃d' us,Aa (X.setCells I.heap.size 0 (dL d j).toArray.toList) I.heap.size (dL d' us)/\RV W.heap.size (X.setCells I.heap.size 0 (dL d j).toArray.toList) us/\Tn [I.heap.size] W (X.setCells I.heap.size 0 (dL d j).toArray.toList)):=fun d j X hX y=>VA HX.o.2.2.2 (by have:=R.o;omega) hX y
  have zE:=Yw HX.o.2.2.1;have zY:=Yw HX.o.2.2.2;have bW:=R.o.1;clear hA zC yC hf HX;by_cases k1:r=1
  .have q1:(r==1)=true:=by simpa using k1
   clear k1;go_upto_region 4 with fail;refine DO [11,12,13,14,15,16,17,18] 8 rfl _ rfl Yr Yr Yr Yr Yr Yq Yr (fun _ X=>Zz W X) (fun i X v=>match i with
    |0=>v=.agg A.toArray
    |1=>v=.agg #[Zg r,.string N,Zg P,.string L,Zg J,Zg H]
    |2=>v=Yx w.heap.size 4
    |3=>v=.agg (Yg u.P u.E u.G u.C a.U u.ks.length a.W a.N u.ps.length a.T a.K u.ls.length a.Q)
    |4=>∃g c rs,v=.agg #[.string N,Yz g rs.length c]/\Ab X X.heap.size (some ⟨g,0,none⟩) rs/\rs.length<=4
    |5=>v=Yx (w.heap.size+1) 5
    |6=>v=Zg H
    |7=>∃d j,v=.agg (dL d j).toArray/\RV W.heap.size X j
    |_=>True) (fun X Y=>Zz X Y) ?_ Ad.drew ?_ ?_
   .intro i X Y v Z G;rcases i with _|_|_|_|_|_|_|_|_<;>first
     |exact G
     |exact Is G Z
     |exact It G Z
   .intro i o k x X hi ho hk f F K q;rcases(show i=0\/i=1\/i=2\/i=3\/i=4\/i=5\/i=6\/i=7 by omega)with rfl|rfl|rfl|rfl|rfl|rfl|rfl|rfl<;>cases ho<;>simp only[Bc,Act.put,Zq,Zp,Zo]at q |-
    .refine wp_load_mid 69 _ rfl w.heap.size 0 rfl A _ (M.o X f).range underlying69 rfl (by rw[S.o];kernel_rfl) ?_;exact q.out _ X rfl Ad f
    .refine wp_load_mid 102 _ rfl (w.heap.size+1) 0 rfl [Zg r,.string N,Zg P,.string L,Zg J,Zg H] _ (O.o X f).range underlying102 rfl Yr ?_;exact q.out _ X rfl Ad f
    .go_simp;exact q.out _ X rfl Ad f
    .have d2:=F ⟨2,.data⟩ Yu Yp;rw[show x 2=Yx w.heap.size 4from d2]at q |-;refine wp_load_mid 27 _ rfl w.heap.size 4 rfl (Yh u.P u.E u.G u.C a.U u.ks.length a.W a.N u.ps.length a.T a.K u.ls.length a.Q) _ (zB.o X f) underlying27 rfl Yr ?_;exact q.out _ X rfl Ad f
    .have d1:=F ⟨1,.data⟩ Yu Yp;have d3:=F ⟨3,.data⟩ Yu Yp;rw[show x 1=.agg #[Zg r,.string N,Zg P,.string L,Zg J,Zg H]from d1,show x 3=.agg (Yg u.P u.E u.G u.C a.U u.ks.length a.W a.N u.ps.length a.T a.K u.ls.length a.Q) from d3]at q |-;go_simp
     refine(OA r P J H N L u.P u.E u.G u.C a.U a.N a.K a.W u.ps.length a.T u.ls.length a.Q u.ks X (HK.o X f).1 zI Yv yD Yv zJ.o.1).mono ?_;rintro e X' ⟨g,c,rs,rfl,hs,hl,z⟩;exact q.out _ X' ⟨g,c,rs,rfl,hs,hl⟩ z (f.trans (z.mono f.size))
    .go_simp;exact q.out _ X rfl Ad f
    .have d5:=F ⟨5,.data⟩ Yu Yp;rw[show x 5=Yx (w.heap.size+1) 5from d5]at q |-;obtain⟨c1,_⟩:=O.o X f 5 _ rfl;go_simp;exact q.out _ X rfl Ad f
    .have d0:=F ⟨0,.data⟩ Yu Yp;have d4:=F ⟨4,.data⟩ Yu Yp;have d6:=F ⟨6,.data⟩ Yu Yp;obtain⟨g,c,rs,e4,hs,hl⟩:=d4;rw[show x 0=.agg A.toArray from d0,e4,show x 6=Zg H from d6]at q |-;go_simp;refine(Vy A N (some ⟨g,0,none⟩) c rs H X (zA.o.below f) hs (fun e=>by cases e) Yv Yo).mono ?_;rintro e X' ⟨d,j,rfl,y,z⟩
     exact q.out _ X' ⟨d,j,rfl,y.mono f.size⟩ z (f.trans (z.mono f.size))
   .intro x X f G K q;simp only[Bc,Act.put,Zq,Zp,Zo];obtain⟨d,j,e1,y⟩:=G 7 Yq;have C:=Yw (T.o d j X f y);obtain⟨D,Q⟩:=Af (dL d j);rw[<-Q]at C e1;rw[e1];clear Q y G;refine wp_store_mid 124 _ _ rfl I.heap.size 0 D.toArray rfl rfl C.o.2.1 (by rw[List.size_toArray,C.o.1.1];kernel_rfl) (all_oneCell_toArray C.o.1.2) ?_;refine q.out _ _ ?_;clear q K;go_wp2_with fail;go_meet
    exact C.o.2.2
  have q1:(r==1)=false:=by simpa using k1
  clear k1;by_cases k2:r=2
  .have q2:(r==2)=true:=by simpa using k2
   clear k2;go_upto_region 6 with fail;refine DO [21,22,23,24,25,26,27,28] 8 rfl _ rfl Yr Yr Yr Yr Yr Yq Yr (fun _ X=>Zz W X) (fun i X v=>match i with
    |0=>v=.agg A.toArray
    |1=>v=Yx (w.heap.size+1) 3
    |2=>v=.string L
    |3=>v=.agg #[Zg r,.string N,Zg P,.string L,Zg J,Zg H]
    |4=>v=Yx w.heap.size 4
    |5=>v=.agg (Yg u.P u.E u.G u.C a.U u.ks.length a.W a.N u.ps.length a.T a.K u.ls.length a.Q)
    |6=>∃s,v=.string s
    |7=>∃d j,v=.agg (dL d j).toArray/\RV W.heap.size X j
    |_=>True) (fun X Y=>Zz X Y) ?_ Ad.drew ?_ ?_
   .intro i X Y v Z G;rcases i with _|_|_|_|_|_|_|_|_<;>first
     |exact G
     |exact Is G Z
     |exact It G Z
   .intro i o k x X hi ho hk f F K q;rcases(show i=0\/i=1\/i=2\/i=3\/i=4\/i=5\/i=6\/i=7 by omega)with rfl|rfl|rfl|rfl|rfl|rfl|rfl|rfl<;>cases ho<;>simp only[Bc,Act.put,Zq,Zp,Zo]at q |-
    .refine wp_load_mid 69 _ rfl w.heap.size 0 rfl A _ (M.o X f).range underlying69 rfl (by rw[S.o];kernel_rfl) ?_;exact q.out _ X rfl Ad f
    .go_simp;exact q.out _ X rfl Ad f
    .have d1:=F ⟨1,.data⟩ Yu Yp;rw[show x 1=Yx (w.heap.size+1) 3from d1]at q |-;obtain⟨c1,_⟩:=O.o X f 3 _ rfl;go_simp;exact q.out _ X rfl Ad f
    .refine wp_load_mid 102 _ rfl (w.heap.size+1) 0 rfl [Zg r,.string N,Zg P,.string L,Zg J,Zg H] _ (O.o X f).range underlying102 rfl Yr ?_;exact q.out _ X rfl Ad f
    .go_simp;exact q.out _ X rfl Ad f
    .have d4:=F ⟨4,.data⟩ Yu Yp;rw[show x 4=Yx w.heap.size 4from d4]at q |-;refine wp_load_mid 27 _ rfl w.heap.size 4 rfl (Yh u.P u.E u.G u.C a.U u.ks.length a.W a.N u.ps.length a.T a.K u.ls.length a.Q) _ (zB.o X f) underlying27 rfl Yr ?_;exact q.out _ X rfl Ad f
    .have d3:=F ⟨3,.data⟩ Yu Yp;have d5:=F ⟨5,.data⟩ Yu Yp;rw[show x 3=.agg #[Zg r,.string N,Zg P,.string L,Zg J,Zg H]from d3,show x 5=.agg (Yg u.P u.E u.G u.C a.U u.ks.length a.W a.N u.ps.length a.T a.K u.ls.length a.Q) from d5]at q |-;go_simp
     refine(Ln r P J H N L u.P u.E u.G u.C a.U a.N a.K a.W u.ps.length a.T u.ls.length a.Q u.ks X (HK.o X f).1 zI Yv zJ.o.1).mono ?_;rintro e X' ⟨s,rfl,z⟩;exact q.out _ X' ⟨s,rfl⟩ z (f.trans (z.mono f.size))
    .have d0:=F ⟨0,.data⟩ Yu Yp;have d2:=F ⟨2,.data⟩ Yu Yp;have d6:=F ⟨6,.data⟩ Yu Yp;obtain⟨s,e6⟩:=d6;rw[show x 0=.agg A.toArray from d0,show x 2=.string L from d2,e6]at q |-;go_simp;refine(Ul A L s X (zA.o.below f) Yo).mono ?_;rintro e X' ⟨d,j,rfl,y,z⟩;exact q.out _ X' ⟨d,j,rfl,y.mono f.size⟩ z (f.trans (z.mono f.size))
   .intro x X f G K q;simp only[Bc,Act.put,Zq,Zp,Zo];obtain⟨d,j,e1,y⟩:=G 7 Yq;have C:=Yw (T.o d j X f y);obtain⟨D,Q⟩:=Af (dL d j);rw[<-Q]at C e1;rw[e1];clear Q y G;refine wp_store_mid 124 _ _ rfl I.heap.size 0 D.toArray rfl rfl C.o.2.1 (by rw[List.size_toArray,C.o.1.1];kernel_rfl) (all_oneCell_toArray C.o.1.2) ?_;refine q.out _ _ ?_;clear q K;go_wp2_with fail;go_meet
    exact C.o.2.2
  have q2:(r==2)=false:=by simpa using k2
  clear k2;by_cases k3:r=3
  .have q3:(r==3)=true:=by simpa using k3
   clear k3;obtain⟨y1,_⟩:=O.o W Ad 3 _ rfl;go_wp2_with (refine wpList_load_mid rfl 69 _ rfl w.heap.size 0 rfl A _ (M.o W Ad).range underlying69 rfl (by rw[S.o];kernel_rfl) ?_);refine(Rb A L W zA.o Yo).mono ?_;rintro o w1 ⟨d,j,rfl,y,z⟩;have C:=Yw (T.o d j w1 z y);obtain⟨D,Q⟩:=Af (dL d j);rw[<-Q]at C;rw[<-Q];clear Q y z HK M zB O T zE y1
   go_wp2_with (refine wpList_store_mid rfl 124 _ _ rfl I.heap.size 0 D.toArray rfl rfl C.o.2.1 (by rw[List.size_toArray,C.o.1.1];kernel_rfl) (all_oneCell_toArray C.o.1.2) ?_);go_meet;exact C.o.2.2
  have q3:(r==3)=false:=by simpa using k3
  clear k3;by_cases k4:r=4
  .have q4:(r==4)=true:=by simpa using k4
   clear k4;go_upto_region 10 with fail;refine DO [37,38,39,40,41,42,43,44] 8 rfl _ rfl Yr Yr Yr Yr Yr Yq Yr (fun _ X=>Zz W X) (fun i X v=>match i with
    |0=>v=.agg A.toArray
    |1=>v=.agg #[Zg r,.string N,Zg P,.string L,Zg J,Zg H]
    |2=>v=Yx w.heap.size 4
    |3=>v=.agg (Yg u.P u.E u.G u.C a.U u.ks.length a.W a.N u.ps.length a.T a.K u.ls.length a.Q)
    |4=>∃s,v=.string s
    |5=>v=Yx (w.heap.size+1) 5
    |6=>v=Zg H
    |7=>∃d j,v=.agg (dL d j).toArray/\RV W.heap.size X j
    |_=>True) (fun X Y=>Zz X Y) ?_ Ad.drew ?_ ?_
   .intro i X Y v Z G;rcases i with _|_|_|_|_|_|_|_|_<;>first
     |exact G
     |exact Is G Z
     |exact It G Z
   .intro i o k x X hi ho hk f F K q;rcases(show i=0\/i=1\/i=2\/i=3\/i=4\/i=5\/i=6\/i=7 by omega)with rfl|rfl|rfl|rfl|rfl|rfl|rfl|rfl<;>cases ho<;>simp only[Bc,Act.put,Zq,Zp,Zo]at q |-
    .refine wp_load_mid 69 _ rfl w.heap.size 0 rfl A _ (M.o X f).range underlying69 rfl (by rw[S.o];kernel_rfl) ?_;exact q.out _ X rfl Ad f
    .refine wp_load_mid 102 _ rfl (w.heap.size+1) 0 rfl [Zg r,.string N,Zg P,.string L,Zg J,Zg H] _ (O.o X f).range underlying102 rfl Yr ?_;exact q.out _ X rfl Ad f
    .go_simp;exact q.out _ X rfl Ad f
    .have d2:=F ⟨2,.data⟩ Yu Yp;rw[show x 2=Yx w.heap.size 4from d2]at q |-;refine wp_load_mid 27 _ rfl w.heap.size 4 rfl (Yh u.P u.E u.G u.C a.U u.ks.length a.W a.N u.ps.length a.T a.K u.ls.length a.Q) _ (zB.o X f) underlying27 rfl Yr ?_;exact q.out _ X rfl Ad f
    .have d1:=F ⟨1,.data⟩ Yu Yp;have d3:=F ⟨3,.data⟩ Yu Yp;rw[show x 1=.agg #[Zg r,.string N,Zg P,.string L,Zg J,Zg H]from d1,show x 3=.agg (Yg u.P u.E u.G u.C a.U u.ks.length a.W a.N u.ps.length a.T a.K u.ls.length a.Q) from d3]at q |-;go_simp
     refine(Ln r P J H N L u.P u.E u.G u.C a.U a.N a.K a.W u.ps.length a.T u.ls.length a.Q u.ks X (HK.o X f).1 zI Yv zJ.o.1).mono ?_;rintro e X' ⟨s,rfl,z⟩;exact q.out _ X' ⟨s,rfl⟩ z (f.trans (z.mono f.size))
    .go_simp;exact q.out _ X rfl Ad f
    .have d5:=F ⟨5,.data⟩ Yu Yp;rw[show x 5=Yx (w.heap.size+1) 5from d5]at q |-;obtain⟨c1,_⟩:=O.o X f 5 _ rfl;go_simp;exact q.out _ X rfl Ad f
    .have d0:=F ⟨0,.data⟩ Yu Yp;have d4:=F ⟨4,.data⟩ Yu Yp;have d6:=F ⟨6,.data⟩ Yu Yp;obtain⟨s,e4⟩:=d4;rw[show x 0=.agg A.toArray from d0,e4,show x 6=Zg H from d6]at q |-;go_simp;refine(Rc A s H X (zA.o.below f)).mono ?_;rintro e X' ⟨d,j,rfl,y,z⟩;exact q.out _ X' ⟨d,j,rfl,y.mono f.size⟩ z (f.trans (z.mono f.size))
   .intro x X f G K q;simp only[Bc,Act.put,Zq,Zp,Zo];obtain⟨d,j,e1,y⟩:=G 7 Yq;have C:=Yw (T.o d j X f y);obtain⟨D,Q⟩:=Af (dL d j);rw[<-Q]at C e1;rw[e1];clear Q y G;refine wp_store_mid 124 _ _ rfl I.heap.size 0 D.toArray rfl rfl C.o.2.1 (by rw[List.size_toArray,C.o.1.1];kernel_rfl) (all_oneCell_toArray C.o.1.2) ?_;refine q.out _ _ ?_;clear q K;go_wp2_with fail;go_meet
    exact C.o.2.2
  have q4:(r==4)=false:=by simpa using k4
  clear k4;by_cases k5:r=5
  .have q5:(r==5)=true:=by simpa using k5
   clear k5;go_upto_region 12 with fail;refine DO [47,48,49,50,51,52] 6 rfl _ rfl Yr Yr Yr Yr Yr Yq Yr (fun _ X=>Zz W X) (fun i X v=>match i with
    |0=>v=.agg A.toArray
    |1=>v=.agg #[Zg r,.string N,Zg P,.string L,Zg J,Zg H]
    |2=>v=Yx w.heap.size 4
    |3=>v=.agg (Yg u.P u.E u.G u.C a.U u.ks.length a.W a.N u.ps.length a.T a.K u.ls.length a.Q)
    |4=>∃n,v=Zg n
    |5=>∃d j,v=.agg (dL d j).toArray/\RV W.heap.size X j
    |_=>True) (fun X Y=>Zz X Y) ?_ Ad.drew ?_ ?_
   .intro i X Y v Z G;rcases i with _|_|_|_|_|_|_<;>first
     |exact G
     |exact Is G Z
     |exact It G Z
   .intro i o k x X hi ho hk f F K q;rcases(show i=0\/i=1\/i=2\/i=3\/i=4\/i=5 by omega)with rfl|rfl|rfl|rfl|rfl|rfl<;>cases ho<;>simp only[Bc,Act.put,Zq,Zp,Zo]at q |-
    .refine wp_load_mid 69 _ rfl w.heap.size 0 rfl A _ (M.o X f).range underlying69 rfl (by rw[S.o];kernel_rfl) ?_;exact q.out _ X rfl Ad f
    .refine wp_load_mid 102 _ rfl (w.heap.size+1) 0 rfl [Zg r,.string N,Zg P,.string L,Zg J,Zg H] _ (O.o X f).range underlying102 rfl Yr ?_;exact q.out _ X rfl Ad f
    .go_simp;exact q.out _ X rfl Ad f
    .have d2:=F ⟨2,.data⟩ Yu Yp;rw[show x 2=Yx w.heap.size 4from d2]at q |-;refine wp_load_mid 27 _ rfl w.heap.size 4 rfl (Yh u.P u.E u.G u.C a.U u.ks.length a.W a.N u.ps.length a.T a.K u.ls.length a.Q) _ (zB.o X f) underlying27 rfl Yr ?_;exact q.out _ X rfl Ad f
    .have d1:=F ⟨1,.data⟩ Yu Yp;have d3:=F ⟨3,.data⟩ Yu Yp;rw[show x 1=.agg #[Zg r,.string N,Zg P,.string L,Zg J,Zg H]from d1,show x 3=.agg (Yg u.P u.E u.G u.C a.U u.ks.length a.W a.N u.ps.length a.T a.K u.ls.length a.Q) from d3]at q |-;go_simp
     refine(Oz r P J H N L u.P u.E u.G u.C a.U a.N a.K u.ks.length a.W u.ps.length a.T a.Q u.ls X (HK.o X f).2 zI Yv zJ.o.2).mono ?_;rintro e X' ⟨n,rfl,z⟩;exact q.out _ X' ⟨n,rfl⟩ z (f.trans (z.mono f.size))
    .have d0:=F ⟨0,.data⟩ Yu Yp;have d4:=F ⟨4,.data⟩ Yu Yp;obtain⟨n,e4⟩:=d4;rw[show x 0=.agg A.toArray from d0,e4]at q |-;go_simp;refine(Oy A n X (zA.o.below f)).mono ?_;rintro e X' ⟨d,j,rfl,y,z⟩;exact q.out _ X' ⟨d,j,rfl,y.mono f.size⟩ z (f.trans (z.mono f.size))
   .intro x X f G K q;simp only[Bc,Act.put,Zq,Zp,Zo];obtain⟨d,j,e1,y⟩:=G 5 Yq;have C:=Yw (T.o d j X f y);obtain⟨D,Q⟩:=Af (dL d j);rw[<-Q]at C e1;rw[e1];clear Q y G;refine wp_store_mid 124 _ _ rfl I.heap.size 0 D.toArray rfl rfl C.o.2.1 (by rw[List.size_toArray,C.o.1.1];kernel_rfl) (all_oneCell_toArray C.o.1.2) ?_;refine q.out _ _ ?_;clear q K;go_wp2_with fail;go_meet
    exact C.o.2.2
  have q5:(r==5)=false:=by simpa using k5
  clear k5;by_cases k6:r=6
  .have q6:(r==6)=true:=by simpa using k6
   clear k6;obtain⟨y1,_⟩:=O.o W Ad 5 _ rfl;go_wp2_with (refine wpList_load_mid rfl 69 _ rfl w.heap.size 0 rfl A _ (M.o W Ad).range underlying69 rfl (by rw[S.o];kernel_rfl) ?_);refine(Um A H W zA.o).mono ?_;rintro o w1 ⟨d,j,rfl,y,z⟩;have C:=Yw (T.o d j w1 z y);obtain⟨D,Q⟩:=Af (dL d j);rw[<-Q]at C;rw[<-Q];clear Q y z HK M zB O T zE y1
   go_wp2_with (refine wpList_store_mid rfl 124 _ _ rfl I.heap.size 0 D.toArray rfl rfl C.o.2.1 (by rw[List.size_toArray,C.o.1.1];kernel_rfl) (all_oneCell_toArray C.o.1.2) ?_);go_meet;exact C.o.2.2
  have q6:(r==6)=false:=by simpa using k6
  clear k6;by_cases k8:r=8
  .have q8:(r==8)=true:=by simpa using k8
   clear k8;go_wp2_with (refine wpList_load_mid rfl 69 _ rfl w.heap.size 0 rfl A _ (M.o W Ad).range underlying69 rfl (by rw[S.o];kernel_rfl) ?_);refine(SO A W zA.o).mono ?_;rintro o w1 ⟨j,rfl,y,z⟩;have U:Hid (j.length=17/\∀u∈j,u.oneCell'=true):=y.len;have HE:=Yw (MU zE.o (Tn.of (V:=[]) z) Yu (show w.heap.size<=w.heap.size+1+1 by omega) Yu (by have:=R.o;omega) bW y hm)
   clear y z HK M zB O T zE;go_wp2_with (refine wpList_store_mid rfl 69 _ _ rfl (w.heap.size+1+1) 0 j.toArray rfl rfl HE.o.1 (by rw[List.size_toArray,U.o.1];kernel_rfl) (all_oneCell_toArray U.o.2) ?_);exact bodyPost_ret (AU results50 _ _ (w.heap.size+1+1) j _ rfl (Aa.range HE.o.2.1) underlying69 rfl (by rw[U.o.1];kernel_rfl)) rfl HE.o.2.2
  have q8:(r==8)=false:=by simpa using k8
  clear k8;by_cases k9:r=9
  .have q9:(r==9)=true:=by simpa using k9
   clear k9;obtain⟨y1,_⟩:=O.o W Ad 4 _ rfl;have yH:J.tmod 6=J%6:=Int.tmod_eq_emod_of_nonneg zI;go_wp2_with (refine wpList_load_mid rfl 69 _ rfl w.heap.size 0 rfl A _ (M.o W Ad).range underlying69 rfl (by rw[S.o];kernel_rfl) ?_);refine(Uo A (J%6) W zA.o Yv).mono ?_;rintro o w1 ⟨j,rfl,y,z⟩;have U:Hid (j.length=17/\∀u∈j,u.oneCell'=true):=y.len
   have HE:=Yw (MU zE.o (Tn.of (V:=[]) z) Yu (show w.heap.size<=w.heap.size+1+1 by omega) Yu (by have:=R.o;omega) bW y hm);clear y z HK M zB O T zE;go_wp2_with (refine wpList_store_mid rfl 69 _ _ rfl (w.heap.size+1+1) 0 j.toArray rfl rfl HE.o.1 (by rw[List.size_toArray,U.o.1];kernel_rfl) (all_oneCell_toArray U.o.2) ?_)
   exact bodyPost_ret (AU results50 _ _ (w.heap.size+1+1) j _ rfl (Aa.range HE.o.2.1) underlying69 rfl (by rw[U.o.1];kernel_rfl)) rfl HE.o.2.2
  have q9:(r==9)=false:=by simpa using k9
  clear k9;by_cases k10:r=10
  .have yE:(r==10)=true:=by simpa using k10
   clear k10;obtain⟨y1,_⟩:=O.o W Ad 4 _ rfl;go_wp2_with (refine wpList_load_mid rfl 69 _ rfl w.heap.size 0 rfl A _ (M.o W Ad).range underlying69 rfl (by rw[S.o];kernel_rfl) ?_);refine(SP A J W zA.o).mono ?_;rintro o w1 ⟨c,j,n,E,rfl,ho,y,z⟩;have U:Hid (j.length=17/\∀u∈j,u.oneCell'=true):=y.len
   have HE:=Yw (MU zE.o (Tn.of (V:=[]) z) Yu (show w.heap.size<=w.heap.size+1+1 by omega) Yu (by have:=R.o;omega) bW y hm);obtain⟨a0,a1,a2,a3,a4,a5,a6,a7,a8,a9,zK,zM,zN,zO,zP,zR,zS,rfl⟩:=Hf y.len.1
   have yF:∀X:Zh,(Instr.field 135 (.agg (IE c [a0,a1,a2,a3,a4,a5,a6,a7,a8,a9,zK,zM,zN,zO,zP,zR,zS] n E).toArray) 1).run prog X=.ok (.agg #[a0,a1,a2,a3,a4,a5,a6,a7,a8,a9,zK,zM,zN,zO,zP,zR,zS]) X:=fun _=>by kernel_rfl
   clear y z HK M zB O T zE;go_wp2_with (refine wpList_store_mid rfl 69 _ _ rfl (w.heap.size+1+1) 0 [a0,a1,a2,a3,a4,a5,a6,a7,a8,a9,zK,zM,zN,zO,zP,zR,zS].toArray rfl rfl HE.o.1 (by rw[List.size_toArray,U.o.1];kernel_rfl) (all_oneCell_toArray U.o.2) ?_)
   exact bodyPost_ret (AU results50 _ _ (w.heap.size+1+1) [a0,a1,a2,a3,a4,a5,a6,a7,a8,a9,zK,zM,zN,zO,zP,zR,zS] _ rfl (Aa.range HE.o.2.1) underlying69 rfl (by rw[U.o.1];kernel_rfl)) rfl HE.o.2.2
  have yE:(r==10)=false:=by simpa using k10
  clear k10;go_wp2_with fail;go_meet;exact⟨_,BB,zY.o,Vz _ _,Tn.of Ad⟩
 case rest=>
  revert wc;intro wc hcut;obtain⟨d,j,xD,y,tW⟩:=hcut.o;clear hcut;have zG:Hid (j.length=17/\∀u∈j,u.oneCell'=true):=y.len;obtain⟨c0,_,_,_,_,rD⟩:=WE xD zG.o.1;have HE:=Yw (MU HX.o.2.2.1 tW (by simp;have:=R.o;omega) (show w.heap.size<=w.heap.size+1+1 by omega) (by simp;have:=R.o;omega) (by have:=R.o;omega) R.o.1 (y.mono (Zx)) hm)
  have zT:=Yw (WJ HX.o.2.2.1 tW (by simp;have:=R.o;omega) (show w.heap.size<=w.heap.size+1+1 by omega) (by simp;have:=R.o;omega) (by have:=R.o;omega) R.o.1 HV.o);have M:Hid (wc.rangeAt w.heap.size 0 A):=(Aa.same HX.o.1 (tW.block _ (by have:=R.o;omega) (by simp;have:=R.o;omega))).range;have yA:Hid (wc.rangeAt I.heap.size 1 j):=rD;clear rD xD y tW HX R;by_cases hc:d.c=0
  .have yB:(d.c==0)=true:=by simpa using hc
   clear hc;go_wp2_with (first
    |refine wpList_load_mid rfl 69 _ rfl I.heap.size 1 rfl j _ yA.o underlying69 rfl (by rw[zG.o.1];kernel_rfl) ?_
    |refine wpList_store_mid rfl 69 _ _ rfl (w.heap.size+1+1) 0 j.toArray rfl rfl HE.o.1 (by rw[List.size_toArray,zG.o.1];kernel_rfl) (all_oneCell_toArray zG.o.2) ?_)
   exact bodyPost_ret (AU results50 _ _ (w.heap.size+1+1) j _ rfl (Aa.range HE.o.2.1) underlying69 rfl (by rw[zG.o.1];kernel_rfl)) rfl HE.o.2.2
  .have yB:(d.c==0)=false:=by simpa using hc
   clear hc;go_wp2_with (first
    |refine wpList_load_mid rfl 69 _ rfl w.heap.size 0 rfl A _ M.o underlying69 rfl (by rw[S.o];kernel_rfl) ?_
    |refine wpList_store_mid rfl 69 _ _ rfl (w.heap.size+1+1) 0 A.toArray rfl rfl zT.o.1 (by rw[List.size_toArray,S.o];kernel_rfl) (all_oneCell_toArray zZ.o) ?_)
   exact bodyPost_ret (AU results50 _ _ (w.heap.size+1+1) A _ rfl (Aa.range zT.o.2.1) underlying69 rfl (by rw[S.o];kernel_rfl)) rfl zT.o.2.2
structure FC (w wr:Zh) (b:Nat) (a:Zk) (n c:Nat) (p k:Int) (q:Nat) (vs:Zj):Prop where
 rd:∃p',AA wr b a n c p'/\p<=p'/\p'<=p+k
 gr:w.grownBy wr (some b)
 z:Aa wr w.heap.size BB
 x:Aa wr q vs
 rv:CL (fun g=>g<=w.heap.size\/g=q) wr vs
 lt:w.heap.size<q
theorem CL.less{p a:Nat->Prop}{b:Zj}(h:CL p w b)(i:∀g,a g->p g):CL a w b:=by obtain⟨u,e,h⟩:=h;exact⟨u,e,fun V c d=>h V c (fun g f=>i g (d g f))⟩
theorem FC.gm(h:FC w wr b a n c p k q d)(f:wr.grownBy X (some b))(j:b<w.heap.size):Aa X q d/\CL (fun g=>g<=w.heap.size\/g=q) X d/\Aa X w.heap.size BB/\w.grownBy X (some b):=by
 have m:=h.lt;refine⟨?_,h.rv.J (Tn.grown (V:=[b]) f Yu) Yt,h.z.au f Yv,Ap h.gr f⟩;obtain⟨v,l,e⟩:∃v l,d=v::l:=by
  have:=h.rv.zero.len.1;cases d with
  |nil=>simp at this
  |cons v l=>exact⟨v,l,rfl⟩
 have i:=h.x;rw[e]at i |-;exact i.au f Yv
theorem FC.go{e:Int}{g:Zj}(h:FC w wr b a n c p k q g)(l:∃d,AA X b a n c d/\p<=d/\d<=p+e)(j:wr.grownBy X (some b))(i:b<w.heap.size):FC w X b a n c p e q g:=
 have f:=h.gm j i
 ⟨l,f.2.2.2,f.2.2.1,f.1,f.2.1,h.lt⟩
theorem FC.more{d:Int}{e:Zj}(h:FC w wr b a n c p k q e)(t:k<=d):FC w wr b a n c p d q e:=by obtain⟨⟨r,f,g,s⟩,i,j,l,m,o⟩:=h;exact⟨⟨r,f,g,Yv⟩,i,j,l,m,o⟩
theorem FC.fin(h:FC w wr b a n c p k q d)(m:d.length=17)(o:b<w.heap.size):
 wr.there w.heap.size 0 d.toArray.size/\Aa (wr.setCells w.heap.size 0 d.toArray.toList) w.heap.size d/\CL (fun g=>g<w.heap.size) (wr.setCells w.heap.size 0 d.toArray.toList) d/\(∃j,AA (wr.setCells w.heap.size 0 d.toArray.toList) b a n c j/\p<=j/\j<=p+k)/\w.grownBy (wr.setCells w.heap.size 0 d.toArray.toList) (some b):=by
 have f:=AF w.heap.size d 0 wr;have e:=h.gr;refine⟨?_,h.z.ar d (by rw[m];rfl),CL.less (h.rv.J f Yu) (fun g e=> .inl Yv),?_,⟨f.os.trans e.os,f.tape.trans e.tape,f.output.trans e.output,Zm e.size f.size,fun i l r=>(f.block i (Zr l e.size) Yt).trans (e.block i l r)⟩⟩
 .rw[show d.toArray.size=17 from by rw[List.size_toArray];exact m];exact h.z.there
 .obtain⟨j,s,t⟩:=h.rd;exact⟨j,s.J f (by simpa using o) Yt,t⟩
theorem RV.new{f:Nat}{c j:Zh}(h:RV m c l)(t:f<m)(a:Zz c j):CL (fun g=>g<=f\/g=c.heap.size) j l:=by
 obtain⟨u,r,h⟩:=h;refine⟨u,r,fun V o q b=>h (V.filter (·<=f)) o (fun g s=>by have:=(List.mem_filter.1 s).2;simp at this;omega) ⟨b.os.trans a.os,b.tape.trans a.tape,b.output.trans a.output,Zm a.size b.size,fun i k n=>(b.block i (Zr k a.size) (fun d=> ?_)).trans (a.block i k)⟩⟩;rcases q i d with e|e
 .exact n (List.mem_filter.2 ⟨d,by simpa using e⟩)
 .omega
theorem FC.put{j vs:Zj}(z:∃f,AA X b a n c f/\p<=f/\f<=p+k)(e:w.grownBy X (some b))(s:Aa X w.heap.size BB)(r:Aa X q j)(m:j.length=17)(o:CL (fun g=>g<=w.heap.size\/g=q) X vs)(y:w.heap.size<q)(A:b<w.heap.size):
 (vs.length=17/\∀u∈vs,u.oneCell'=true)/\X.there q 0 vs.toArray.size/\FC w (X.setCells q 0 vs.toArray.toList) b a n c p k q vs:=by
 have h:=o.zero.len;have d:=AF q vs 0 X;refine⟨h,?_,?_,?_,?_,?_,o.J d Yu,y⟩
 .rw[show vs.toArray.size=j.length from by rw[List.size_toArray,m];exact h.1];exact r.there
 .obtain⟨f,v,x⟩:=z;exact⟨f,v.J d Yt Yt,x⟩
 .exact⟨d.os.trans e.os,d.tape.trans e.tape,d.output.trans e.output,Zm e.size d.size,fun i l t=>(d.block i (Zr l e.size) Yt).trans (e.block i l t)⟩
 .exact Aa.same s (d.block _ s.lt Yt)
 .exact r.ar vs (by rw[m];exact h.1)
theorem Pe(b:Nat)(a:Zk)(n c:Nat)(p:Int)(w:Zh)(h:AA w b a n c p)(hp:0<=p)(yL:p<=700000):
 Calls prog 28 #[.pointer (some ⟨b,0,none⟩)] w fun e w'=>∃vs,e=.returned (.agg vs.toArray)/\CL (fun g=>g<w.heap.size) w' vs/\GD w w' b a n c p 40000:=by
 have L:=h.lt;obtain⟨W,U⟩:=Af (w.alloc (.cells Xp 69));have bW:=(AL U).1;have zW:=(AL U).2.1;have HZ:Hid (Aa W w.heap.size BB):=(AL (l:=BB) U).2.2;have HR:Hid (AA W b a n c p/\w.grownBy W (some b)):=⟨h.below bW,Ak _ bW⟩;have zK:Hid (W.heap.size=w.heap.size+1):=zW;have HW:Hid _:=U;clear U bW zW h;go_enter func28,ntmps28;go_upto_region 2 with fail;rw[<-HW.o];clear HW;go_wp2_with fail
 refine(AR b a n c p 6 W HR.o.1 hp (by omega) (by omega) (by omega)).mono ?_;rintro e w1 ⟨r1,rfl,yU,yV,y,g1⟩;have P:Hid _:=Za y g1;clear y g1
 go_upto_if 9 with fail
 go_cut [3,9] (fun yC _ wx=>Hid (∃(l d:Int),yC=Zg l/\AA wx b a n c d/\p<=d/\d<=p+2/\W.grownBy wx (some b)))
 case first=>
  by_cases q1:r1=0
  .have yD:(r1==0)=true:=by simpa using q1
   clear q1;go_wp2_with fail;refine(AR b a n c (p+1) 60 w1 P.o.1 (by omega) (by omega) (by omega) (by omega)).mono ?_;rintro e w2 ⟨r2,rfl,yW,yX,h2,g2⟩;have HM:Hid (AA w2 b a n c (p+1+1)/\W.grownBy w2 (some b)):=⟨h2,Ap P.o.2 g2⟩;clear h2 g2 P HR HZ;go_wp2;go_meet;exact⟨_,p+1+1,rfl,HM.o.1,by omega,by omega,HM.o.2⟩
  .have yD:(r1==0)=false:=by simpa using q1
   clear q1;go_wp2_with fail;go_meet;exact⟨_,p+1,rfl,P.o.1,by omega,by omega,P.o.2⟩
 case rest=>
  revert wc;intro w3 hcut;obtain⟨l,p1,rfl,zR,yM,yH,zG⟩:=hcut.o;clear hcut P;have zA:Hid (w.grownBy w3 (some b)/\W.grownBy w3 (some b)):=⟨Ap HR.o.2 zG,zG⟩;clear zG;go_wp2_with fail;refine(MG b a n c p1 w3 zR (by omega) (by omega)).mono ?_;rintro e w4 ⟨wd,rfl,_,zS,zH⟩;have B:Hid (w.grownBy w4 (some b)/\W.grownBy w4 (some b)/\AA w4 b a n c (p1+1)):=⟨Ap zA.o.1 zH,Ap zA.o.2 zH,zS⟩;clear zR zS zH zA
  go_wp2_with fail;refine Calls.mono (Un wd l none none 0 0 [] [] w4 (.inl rfl) (.inl rfl) (fun _=>⟨rfl,rfl⟩) (fun _=>⟨rfl,rfl⟩) ⟨by simp,by simp,by simp,by simp⟩) ?_;rintro e G ⟨cd,vs,rfl,zI,J⟩;have HL:Hid (vs.length=17/\∀u∈vs,u.oneCell'=true):=zI.len;have O:=J.size;obtain⟨W5,I⟩:=Af (G.alloc (.cells Xp 69));have H:=(AL I).1;have yF:=(AL I).2.1
  have x5:Aa W5 G.heap.size BB:=(AL (l:=BB) I).2.2;have E:w.heap.size<G.heap.size:=by have:=B.o.2.1.size;have:=zK.o;omega
  have s:Hid _:=FC.put (w:=w) (X:=W5) (p:=p) (k:=4) (q:=G.heap.size) (vs:=vs) ⟨p1+1,(B.o.2.2.below J).below H,by omega,by omega⟩ (Ap B.o.1 (Ak _ (J.trans (H.mono O)))) (Aa.below (Aa.below (HZ.o.au B.o.2.1 (by omega)) J) H) x5 rfl (zI.new (by have:=B.o.2.1.size;have:=zK.o;omega) H) E L;obtain⟨W6,zF⟩:=Af (W5.setCells G.heap.size 0 vs.toArray.toList);rw[<-zF]at s;have zB:Hid _:=I
  have zJ:Hid _:=zF;clear zI J O H yF x5 B I zF HR HZ;have S:Hid _:=Za s.o.2.2 HL.o.1;go_upto_region 5 with(refine wpList_store_mid rfl 69 _ _ rfl G.heap.size 0 vs.toArray rfl rfl (by rw[<-zB.o];exact s.o.2.1) (by rw[List.size_toArray,HL.o.1];kernel_rfl) (all_oneCell_toArray HL.o.2) ?_);rw[<-zB.o,<-zJ.o];clear zB zJ s HL;obtain⟨q,hq⟩:=Af G.heap.size;rw[<-hq]at S E |-;clear hq
  obtain⟨p6,zT,yN,yI⟩:=S.o.1.rd;go_wp2_with fail;refine(AR b a n c p6 14 W6 zT (by omega) (by omega) (by omega) (by omega)).mono ?_;rintro e w7 ⟨n7,rfl,yQ,yR,zU,zN⟩;go_wp2_with fail;refine(AR b a n c (p6+1) 6 w7 zU (by omega) (by omega) (by omega) (by omega)).mono ?_;rintro e w8 ⟨n8,rfl,yS,yT,zV,zO⟩
  have H8:Hid (FC w w8 b a n c p 6 q vs/\vs.length=17):=⟨S.o.1.go ⟨p6+1+1,zV,by omega,by omega⟩ (Ap zN zO) L,S.o.2⟩;clear zT zU zV zN zO S
  go_upto_if 25 with fail
  go_cut [6,25] (fun nn _ wx=>Hid (∃k:Nat,nn=Zg k/\k<=25/\wx=w8))
  case first=>
   by_cases q8:n8=0
   .have yE:(n8==0)=true:=by simpa using q8
    clear q8;go_wp2;go_meet;exact⟨n7.toNat+12,by go_num,by omega,rfl⟩
   .have yE:(n8==0)=false:=by simpa using q8
    clear q8;go_wp2_with fail;go_meet;exact⟨n7.toNat,by congr 1;omega,by omega,rfl⟩
  case rest=>
   revert wc;intro w9 hcut;obtain⟨k9,rfl,zZ,rfl⟩:=hcut.o;clear hcut;go_wp2
   go_loopw [6] (fun nn wr=>∃(k:Nat) (f:Zj),nn=Zg k/\k<=25/\Hid (FC w wr b a n c p (6+1200 *(25 -k)) q f/\f.length=17)) (fun nn _=>(intOf nn).toNat)
   case atStart=>exact⟨k9,vs,rfl,zZ,H8.o.1.more (by omega),H8.o.2⟩
   case round=>
    clear H8;obtain⟨k,f,rfl,hk,r⟩:=hrel;obtain⟨p0,zP,yK,yG⟩:=r.o.1.rd;by_cases hk0:0<k
    .obtain⟨Z,rfl⟩:∃Z,k=Z+1:=⟨k -1,by omega⟩;have yJ:decide ((0:Int)<((Z+1:Nat):Int))=true:=by simp
     have zX:Hid (AA wr b a n c p0):=zP;have yO:q<wr.heap.size:=by
      obtain⟨v,l,e⟩:∃v l,f=v::l:=by
       have:=r.o.2;cases f with
       |nil=>simp at this
       |cons v l=>exact⟨v,l,rfl⟩
      have hx:=r.o.1.x;rw[e]at hx;exact hx.lt
     have C:Hid (∀X,wr.grownBy X (some b)->Aa X q f/\CL (fun g=>g<=w.heap.size\/g=q) X f/\Aa X w.heap.size BB/\w.grownBy X (some b)):=fun X hX=>by have y:=r.o.1.gm hX L;exact⟨y.1,y.2.1,y.2.2.1,y.2.2.2⟩
     clear zP;go_upto_region 10 with fail;refine DO [32,33,34,35] 4 rfl _ rfl (by kernel_rfl) (by kernel_rfl) (by kernel_rfl) (by kernel_rfl) (by kernel_rfl) (by decide) (by kernel_rfl) (fun j X=>(∃d,AA X b a n c d/\p0<=d/\d<=p0+300 *j)/\wr.grownBy X (some b)) (fun i X v=>match i with
      |0=>v=.agg f.toArray
      |1=>v=.pointer (some ⟨b,0,none⟩)
      |2=>∃kd R N Q M tk,v=.agg #[Zg kd,.string R,Zg N,.string Q,Zg M,Zg tk]/\R.size<=16/\0<=N/\N<8/\Q.size<=1/\0<=M/\M<40
      |3=>∃A,v=.agg A.toArray/\CL (fun g=>g<=w.heap.size\/g=q) X A
      |_=>True) (fun X Y=>X.grownBy Y (some b)) ?_ ⟨⟨p0,zX.o.drew,by omega,by omega⟩,⟨rfl,rfl,rfl,Zx,fun _ _ _=>rfl⟩⟩ ?_ ?_
     .intro i X Y v zY F;rcases i with _|_|_|_|_
      .exact F
      .exact F
      .exact F
      .obtain⟨A,y,h2⟩:=F;exact⟨A,y,h2.J (Tn.grown (V:=[b]) zY (by simp)) (by simp;omega)⟩
      .exact F
     .intro i o j x X hi ho hj z hd K t;rcases(show i=0\/i=1\/i=2\/i=3 by omega)with rfl|rfl|rfl|rfl<;>cases ho<;>simp only[Bc,Act.put,Zq,Zp,Zo]at t |-
      .refine wp_load_mid 69 _ rfl q 0 rfl f _ (C.o X z.2).1.range underlying69 rfl (by rw[r.o.2];kernel_rfl) ?_;exact t.out _ X rfl (AJ _ _) ⟨z.1.imp (fun d h=>⟨h.1,h.2.1,by omega⟩),z.2⟩
      .go_simp;exact t.out _ X rfl (AJ _ _) ⟨z.1.imp (fun d h=>⟨h.1,h.2.1,by omega⟩),z.2⟩
      .have d1:=hd ⟨1,.data⟩ (by simp) (by rfl);rw[show x 1=.pointer (some ⟨b,0,none⟩)from d1]at t |-;obtain⟨⟨d,D,zC,zE⟩,m⟩:=z;go_simp;refine(Vn b a n c d X D (by omega) (by omega)).mono ?_;rintro e X' ⟨kd,R,N,Q,M,tk,rfl,a1,a2,a3,a4,a5,a6,⟨p2,yB,h3,h4⟩,zM⟩;exact t.out _ X' ⟨kd,R,N,Q,M,tk,rfl,a1,a2,a3,a4,a5,a6⟩ zM ⟨⟨p2,yB,by omega,by omega⟩,Ap m zM⟩
      .have d0:=hd ⟨0,.data⟩ (by simp) (by rfl);obtain⟨kd,R,N,Q,M,tk,e2,a1,a2,a3,a4,a5,a6⟩:=hd ⟨2,.data⟩ (by simp) (by rfl);rw[show x 0=.agg f.toArray from d0,e2]at t |-;obtain⟨⟨d,D,zC,zE⟩,m⟩:=z;have yP:=m.size;go_simp;refine(Up f kd N M tk R Q X (fun g hg=>by omega) (C.o X m).2.1 a1 a2 a3 a4 a5 a6).mono ?_;rintro e X' ⟨A,rfl,hv,hb⟩
       exact t.out _ X' ⟨A,rfl,hv⟩ (Ak _ hb) ⟨⟨d,D.below hb,by omega,by omega⟩,Ap m (Ak _ hb)⟩
     .intro x X z F K t;simp only[Bc,Act.put,Zq,Zp,Zo];obtain⟨A,e3,hv⟩:=F 3 (by decide);obtain⟨⟨d,D,zC,zE⟩,m⟩:=z;have s:Hid _:=FC.put (p:=p) (k:=6+1200 *(25 -(Z:Int))) ⟨d,D,by omega,by omega⟩ (C.o X m).2.2.2 (C.o X m).2.2.1 (C.o X m).1 r.o.2 hv E L;rw[e3];clear F hv D zC zE m C r
      refine wp_store_mid 69 _ _ rfl q 0 A.toArray rfl rfl s.o.2.1 (by rw[List.size_toArray,s.o.1.1];kernel_rfl) (all_oneCell_toArray s.o.1.2) ?_;refine t.out _ _ ?_;clear t K;go_wp2;exact⟨⟨Z,A,by go_num,by omega,s.o.2.2,s.o.1.1⟩,by simp[intOf]⟩
    .obtain rfl:k=0:=by omega
     have T:Hid _:=r.o.1.fin r.o.2 L;have yA:Hid (∀u∈f,u.oneCell'=true):=r.o.1.rv.zero.len.2;go_wp2_with (first
      |refine wpList_load_mid rfl 69 _ rfl q 0 rfl f _ r.o.1.x.range underlying69 rfl (by rw[r.o.2];kernel_rfl) ?_
      |refine wpList_store_mid rfl 69 _ _ rfl w.heap.size 0 f.toArray rfl rfl T.o.1 (by rw[List.size_toArray,r.o.2];kernel_rfl) (all_oneCell_toArray yA.o) ?_)
     exact bodyPost_ret (AU results28 _ _ w.heap.size f _ rfl (Aa.range T.o.2.1) underlying69 rfl (by rw[r.o.2];kernel_rfl)) rfl ⟨f,rfl,T.o.2.2.1,⟨T.o.2.2.2.1.imp (fun d h=>⟨h.1,h.2.1,by have:=h.2.2;simp at this;omega⟩),T.o.2.2.2.2⟩⟩
theorem FW{a:Nat}{e b:TypeId}{v:Value}{f:Array Value}{g:Nat}(h:w.ownsRow a e size v n l)(k:v.ownBlock=some g)(j:w.heap[g]?=some (.cells f b))(i:b≠e):False:=by obtain⟨c,d⟩:=Dc h k;rw[j]at d;cases d;exact i rfl
theorem Jl{a:Nat}{e:TypeId}{v:Value}(h:w.ownsRow a e size v n d):v=Zb/\n=0\/∃g cap,v=Yz g n cap/\a<=g:=by
 rcases h.2 with b|⟨g,cap,f,rfl,c,_⟩
 .exact .inl b
 .exact .inr ⟨g,cap,rfl,c⟩
theorem CL.off{p:Nat->Prop}{D:Zj}(h:CL p w D):∃(u:Vd) (a:Va) (n:Zj),Ox u/\D=Bn u (.slice a.g u.ss.length a.sc) (.slice a.X u.A.length a.Z) (.slice a.U u.ks.length a.W) (.slice a.N u.ps.length a.T) (.slice a.K u.ls.length a.Q) (.slice a.i u.D.length a.qc) (.slice a.j u.ms.length a.mc)/\Bb w 0 (.slice a.U u.ks.length a.W) (.slice a.N u.ps.length a.T) (.slice a.K u.ls.length a.Q) n u.ks u.ps u.ls/\∀g∈BS (.slice a.U u.ks.length a.W) (.slice a.N u.ps.length a.T) (.slice a.K u.ls.length a.Q) n,¬p g:=by
 obtain⟨u,P,h⟩:=h;obtain⟨a,x,_,N⟩:=h [] w Yu (Tn.of Ad);obtain⟨n,j⟩:=N.so;refine⟨u,a,n,P,x,j,fun g c R=> ?_⟩;have F:=j.co g c;obtain⟨X,z⟩:∃X:Zh,X={w with heap:=w.heap.setIfInBounds g (.cells #[] 27)}:=⟨_,rfl⟩;have k:X.heap[g]?=some (.cells #[] 27):=by rw[z];simp[F]
 have y:Tn [g] w X:=by rw[z];exact⟨rfl,rfl,rfl,Yu,fun b _ A=>by simp at A;simp[Ne.symm A]⟩
 obtain⟨Y,t,_,O⟩:=h [g] X (by simpa using R) y;obtain⟨l,d⟩:=O.so;rw[x]at t;simp only[Bn,List.cons.injEq]at t;obtain⟨_,_,_,_,_,_,_,_,M,L,K,_⟩:=t;rw[<-M,<-L,<-K]at d;generalize hTv:Value.slice a.U u.ks.length a.W=T at *
 by_cases hTg:T.ownBlock=some g
 .exact FW d.aj hTg k Yq
 .unfold BS at c;simp only[List.mem_append,Option.mem_toList,List.mem_filterMap]at c;rcases c with c|c|c|⟨r,S,c⟩
  .exact hTg c
  .exact FW d.pins c k Yq
  .exact FW d.aq c k Yq
  .obtain⟨i,B⟩:=List.getElem?_of_mem S;have o:=(Zw B).1;rw[j.len]at o;have v:=Zv o;have q:i<l.length:=by rw[d.len];exact o
   have s:=Zv q;have V:(u.ks.zip n)[i]?=some (u.ks[i],r):=List.getElem?_zip_eq_some.2 ⟨v,B⟩;have W:(u.ks.zip l)[i]?=some (u.ks[i],l[i]):=List.getElem?_zip_eq_some.2 ⟨v,s⟩;have H:=BZ Cb V (show 3<4 by decide);have c2:=BZ Cb W (show 3<4 by decide);rcases Jl j.aj with⟨Q,_⟩|⟨m,cap,U,_⟩
   .rw[Q]at hTv;have:u.ks.length=0:=by injection hTv
    omega
   .subst U;have E:=Ac j.aj (g:=m) rfl;have I:=j.aj.cellAt (i *4+3) Yv;have J:=d.aj.cellAt (i *4+3) Yv;have f:X.cell? (Zd m (i *4+3))=w.cell? (Zd m (i *4+3)):=World.cell?_of_block (a:=⟨m,i *4+3,none⟩) (y.block m E.2 (by simp;intro e;exact hTg (by rw[e];rfl)));rw[I,J,H,c2]at f;have G:l[i]=r:=by injection f
    have C:=d.B i _ _ v s;rw[G]at C;exact FW C c k Yq
end Go.Proofs.YtcfjcdpkpiidkaaGreat
