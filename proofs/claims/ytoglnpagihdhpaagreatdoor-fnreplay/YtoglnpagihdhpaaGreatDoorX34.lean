import Derived.Test.YtoglnpagihdhpaaGreatDoorX33
import Derived.Test.YtoglnpagihdhpaaGreatDoorX32
import Derived.Test.YtoglnpagihdhpaaGreatDoorX20
import Derived.Deep.CutBlock
set_option maxRecDepth 100000
set_option maxHeartbeats 16000000
namespace Go.Proofs.YtoglnpagihdhpaaGreatDoor
open ChangeShapes WideShapes ChangeAt RowKit _root_.Go.Proofs.Tryz
variable{i k p k':Int}{a:Zk}{e f:Zl}{c b n m q g cap N:Nat}{v:Vd}{d:Zj}{u:UR}{W X Y w wr:Zh}{V:List Nat}
theorem Ky:Rc v0:=⟨Mp,(fun k a=>by cases a),Kw,rfl⟩
theorem FO.ir{a:Int}{c:Int}(h:FO i a e f c v):∀k∈v.A,OV k:=by
 rcases h with⟨_,_,rfl⟩|⟨g,⟨_,_,rfl⟩|⟨r,d,_,rfl⟩⟩
 .exact Ky.y
 .exact Ky.y
 .exact Up (d.tok (by intro k b;cases b))
theorem FO.gz{b:Int}{c:Int}(h:FO i b e f c v):Ji v.A v.ps v.ls:=by
 rcases h with⟨_,_,rfl⟩|⟨g,⟨_,_,rfl⟩|⟨r,a,_,rfl⟩⟩
 .exact Kw
 .exact Kw
 .exact PL (a.ok (Du g.1.1 g.1.2)) (a.rx (Du g.1.1 g.1.2) ⟨by simp[r0],by simp[r0],by simp[r0],by simp[r0],by simp[r0]⟩) (a.pn (by intro p d;cases d)) g.1.2
theorem FO.lg{e a:Int}{b d:Zl}{c:Int}(h:FO e a b d c v):Ct v.ss v.D=true:=by
 rcases h with⟨_,_,rfl⟩|⟨g,⟨_,_,rfl⟩|⟨r,f,_,rfl⟩⟩
 .rfl
 .rfl
 .exact g.2.2
theorem Ep.lg{a:Int}(h:Ep v a (some (u,n)))(i:Ct v.ss v.D=true):Ct (AW v u).ss (AW v u).D=true:=by
 rcases h with⟨_,h⟩|⟨r,d,_,h⟩
 .cases h
 have f:=h.jx (Kg d) _ rfl;have c:=f.df;have e:=EI.1 i;rw[List.length_append]at c;simp only at c;refine EI.2 ⟨?_,fun s g=> ?_⟩
 .show v.ss.length+(v.D++u.ds.map (Hz v.wd)).length<=4000;rw[List.length_append,List.length_map];omega
 .have b:s∈v.ss++(v.D++u.ds.map (Hz v.wd)):=g;rw[<-List.append_assoc]at b;rcases List.mem_append.1 b with h|h
  .exact e.2 s h
  .obtain⟨x,_,rfl⟩:=List.mem_map.1 h;exact PM v.wd x
theorem Ji.sub{d c:List Kd}{f:List Pd}{e:List Ld}(h:Ji d f e)(b:c.Sublist d):Ji c f e:=
 ⟨⟨Zm b.length_le h.k.len,fun k a=>h.k.sum k (b.subset a),fun k a=>h.k.J k (b.subset a),fun k a=>h.k.B k (b.subset a),fun k a=>h.k.ref k (b.subset a)⟩,h.p,h.l,fun k a=>h.b k (b.subset a),Zm b.length_le h.n.1,h.n.2⟩
theorem ClTo.sub{b:Int}{e:List Pd}{d:List Ld}{free:Nat}{o:Option (UR×Nat)}(h:ClTo b e d free c n u o):∀p∈o,p.1.A.Sublist u.A:=by
 induction h with
 |fin n u h=>intro p a;cases a;exact List.Sublist.refl _
 |old n u h hr=>intro p a;cases a
 |full n u r h hr ht hd hf=>intro p a;cases a;exact List.Sublist.refl _
 |long n u r h hr ht hl=>intro p a;cases a
 |step n u r o h hr ht hq hm hf hs ih=>exact fun p a=>(ih p a).trans ht.sub
theorem Ep.ir{a:Int}(h:Ep v a (some (u,n)))(c:∀k∈v.A,OV k):∀k∈(AW v u).A,OV k:=by
 rcases h with⟨_,h⟩|⟨r,d,_,h⟩
 .cases h
 exact fun k b=>c k ((h.sub _ rfl).subset b)
theorem Ep.gz{a:Int}(h:Ep v a (some (u,n)))(b:Ji v.A v.ps v.ls):Ji (AW v u).A (AW v u).ps (AW v u).ls:=by
 rcases h with⟨_,h⟩|⟨r,c,_,h⟩
 .cases h
 exact b.sub (h.sub _ rfl)
def VRv(w:Zh)(o:Ending)(w':Zh):Prop:=∃vs,o=.returned (.agg vs.toArray)/\RV w.heap.size w' vs/\Zz w w'
theorem Ur(A:Zj)(w:Zh)(z:RV m w A):Calls prog 92 #[.agg A.toArray] w (VRv w):=by
 obtain⟨v,a,⟨b,l,n,g⟩,rfl,c,d⟩:=z.E;refine(SD v _ _ _ _ _ (Bx v.ss v.D v.D.length) w rfl (fun Y f=>Ew v a Y (c.N f) d.cap b) ?_ (fun _ Y f=>XE a.X a.V _ _ v.ss v.D Y (c.N f).s (c.N f).t d.s.2 d.t.2 b.s b.t b.ss b.D)).mono ?_
 .intro t Y f;refine(FP v a Y ((d.cp c b t).below f)).mono ?_;rintro e C ⟨S,U,T,P,L,Q,M,j,rfl,i,_,o⟩;exact⟨S,U,T,P,L,Q,M,j,rfl,i,o⟩
 .rintro e B ⟨u,S,U,T,P,L,Q,M,j,y,rfl,q,r⟩;refine⟨_,rfl,q.rv ?_,r⟩;rcases y with⟨_,rfl⟩|⟨_,rfl⟩
  .exact Ky
  .obtain⟨c,d⟩:=Mq (k:=v.D.length) b.ss b.D;refine⟨⟨c,by simp[PI],d,by simp[PI],b.st,b.r,b.rn⟩,l,n,?_⟩;have i:=EI.1 g;have e:Bx v.ss v.D v.D.length=v.ss++v.D:=by simp[Bx,g]
   refine EI.2 ⟨?_,fun s x=> ?_⟩
   .show(Bx v.ss v.D v.D.length).length+0<=4000;rw[e,List.length_append];omega
   .have h:s∈Bx v.ss v.D v.D.length++[]:=x;rw[e,List.append_nil]at h;exact i.2 s h
theorem Wc(m j:Int)(a b:Zk)(c d:Nat)(g h:Zl)(w:Zh)(t:Ad w w.heap.size a g)(s:Ad w w.heap.size b h)(q:a=none->g.length=0/\c=0)(r:b=none->h.length=0/\d=0)(f:ZZ g h):
 Calls prog 35 #[Zg m,Zg j,.agg #[.slice a g.length c,.slice b h.length d]] w fun e k=>∃c l,e=.returned (.tuple #[.agg l.toArray,Zg c])/\RV w.heap.size k l/\Zz w k:=by
 refine(NL m j a b c d g h w t s q r f.s f.t f.ss f.D).mono ?_;rintro e k ⟨c,u,S,U,T,P,L,Q,M,v,i,rfl,n,o⟩;exact⟨c,Bm u S U T P L Q M,rfl,n.rv ⟨i.fit f,i.ir,i.gz,i.lg⟩,o⟩
theorem Wd(A:Zj)(k:Int)(w:Zh)(G:RV m w A)(s:0<=k):Calls prog 93 #[.agg A.toArray,Zg k] w (VRv w):=by
 obtain⟨v,a,⟨b,_,_,_⟩,rfl,q,f⟩:=G.E;obtain⟨l,o⟩:=Mq (k:=k) b.ss b.D;refine(Ui v _ _ _ k (Bx v.ss v.D k) Rc w rfl (fun Y g=>Ew v a Y (q.N g) f.cap b) (fun _ Y g=> ?_) (fun _ Y u n g d=> ?_)).mono ?_
 .have i:=q.N g;rcases hta:a.V with _|A
  .obtain⟨j,x⟩:=f.t.2 hta;have y:=List.eq_nil_of_length_eq_zero j;rw[j,x,y];exact TL a.X _ v.ss k s Y i.s f.s.2 b.s b.ss
  .have r:=i.t;rw[hta]at r;exact TJ a.X A _ _ v.ss v.D k s Y i.s r f.s.2 b.s b.t b.ss b.D f.t.1
 .obtain⟨a,c,rfl,F,E⟩:=YD d;refine(NL v.wd v.lim a none c 0 (Bx v.ss v.D k) [] Y F (.inl rfl) E (fun _=>⟨rfl,rfl⟩) l Yu o Yu).mono ?_;rintro e I ⟨c,u,S,U,T,P,L,Q,M,t,d,rfl,z,B⟩;exact⟨c,u,S,U,T,P,L,Q,M,t,⟨d.fit ⟨l,Yu,o,Yu⟩,d.ir,d.gz,d.lg⟩,rfl,z,B⟩
 .rintro e H ⟨u,S,U,T,P,L,Q,M,t,d,rfl,C,D⟩;refine⟨_,rfl,C.rv ?_,D⟩;rcases d with⟨_,rfl⟩|⟨_,h⟩
  .exact Ky
  .exact h
theorem Ep.fitv{b:Int}(h:Ep v b (some (u,n)))(c:Ge v):Ge (AW v u):=by
 rcases h with⟨_,h⟩|⟨r,e,_,h⟩
 .cases h
 have a:=h.jx (Kg e) _ rfl;have i:=a.dl;have g:=a.df;have j:=Lo (fun k f=>(a.ok.B k f).1);have l:=EG e.log;have m:=a.ql;have o:=a.ml;rw[List.length_append]at l g;simp only at i g j m o;refine⟨c.s,?_,c.ss,?_,⟨by show u.A.length<=_;omega,fun k f=>by have:=(a.ok.B k f).1;omega,c.st.p,c.st.l⟩,⟨by show u.G.length<=_;omega,by show u.ms.length<=_;omega⟩,by show FB u.A<=_;omega⟩
 .show(v.D++u.ds.map (Hz v.wd)).length<=_;rw[List.length_append,List.length_map];omega
 .intro s d;rcases List.mem_append.1 d with d|d
  .exact c.D s d
  .obtain⟨x,_,rfl⟩:=List.mem_map.1 d;have:=PM v.wd x;omega
theorem Us(A:Zj)(k:Int)(w:Zh)(C:RV m w A):Calls prog 94 #[.agg A.toArray,Zg k] w fun e d=>∃c q n D,e=.returned (.agg (Jm c q n D).toArray)/\D.oneCell'=true/\RV w.heap.size d q/\Zz w d:=by
 obtain⟨v,a,⟨f,t,x,s⟩,rfl,g,i⟩:=C.E;refine(SG v a k w g i.cap f (fun h=>i.cp g f h)).mono ?_;rintro e d ⟨o,y,b,rfl,j,l⟩;rcases o with _|⟨u,n⟩
 .have r:y=z20 1:=j;subst r;exact⟨1,_,0,Zb,rfl,rfl,(AD.nil d w.heap.size).rv Ky,l⟩
 .obtain⟨S,U,T,P,L,Q,M,E,D,rfl,z,B,_⟩:=j;obtain⟨_,_,rfl,_⟩:=B.row;exact⟨0,_,n,_,rfl,rfl,z.rv ⟨b.fitv f,b.ir t,b.gz x,b.lg s⟩,l⟩
theorem YJ(n:Nat)(w:Zh):RV n w BA:=⟨v0,Ky,fun _ a _ _=>(AD.nil a 0).ja⟩
theorem YK{d k:Dd}{a:Zj}(l:Aa W q (dL k BA))(f:q<W.heap.size)(e:Zz W X)(g:RV W.heap.size X a):
 ((dL d a).length=22/\∀u∈dL d a,u.oneCell'=true)/\X.there q 0 (dL d a).toArray.size/\∃j i,Aa (X.setCells q 0 (dL d a).toArray.toList) q (dL j i)/\RV W.heap.size (X.setCells q 0 (dL d a).toArray.toList) i/\Tn [q] W (X.setCells q 0 (dL d a).toArray.toList):=by
 have c:=Ke (d:=d) g.len;have h:=AI q (dL d a) 0 X;have b:=Aa.same l (e.block q f);refine⟨c,?_,d,a,b.au _ (by rw[c.1];rfl),g.K h (by simpa using f),(Tn.of e).trans h⟩;rw[show(dL d a).toArray.size=22 from by rw[List.size_toArray];exact c.1];exact b.there
theorem Jc{b:Zi}{v:Value}(h:∃g c,∃a:Zl,v=.agg #[.string b,Yz g a.length c]/\Ad X X.heap.size (some ⟨g,0,none⟩) a/\a.length<=4)(i:Zz X Y):∃g c,∃a:Zl,v=.agg #[.string b,Yz g a.length c]/\Ad Y Y.heap.size (some ⟨g,0,none⟩) a/\a.length<=4:=by obtain⟨g,c,a,d,e,f⟩:=h;exact⟨g,c,a,d,e.N i,f⟩
theorem Jd{v:Value}(h:∃d a,v=.agg (dL d a).toArray/\RV n X a)(e:Zz X Y):∃d a,v=.agg (dL d a).toArray/\RV n Y a:=by obtain⟨d,a,b,c⟩:=h;exact⟨d,a,b,c.below e⟩
theorem Rd{p:Nat->Prop}{a:Zj}(n:Aa W q BA)(g:Tn V W X)(l:q∉V)(j:w.heap.size<=q)(k:∀b∈V,w.heap.size<=b)(i:q<W.heap.size)(c:Zz w W)(f:a.length=17)(m:Dw p (X.setCells q 0 a.toArray.toList) a):
 X.there q 0 a.toArray.size/\Aa (X.setCells q 0 a.toArray.toList) q a/\∃h,Ending.returned (.agg a.toArray)=.returned (.agg h.toArray)/\Dw p (X.setCells q 0 a.toArray.toList) h/\Zz w (X.setCells q 0 a.toArray.toList):=by
 have d:=Aa.same n (g.block q i l);have e:=c.trans (g.below c.size k);refine⟨?_,d.au a (by rw[f];rfl),a,rfl,m,e.trans ((AI q a 0 X).below e.size (by simpa using j))⟩;rw[show a.toArray.size=17 from by rw[List.size_toArray];exact f];exact d.there
theorem Oo{p:Nat->Prop}{a:Zj}(l:Aa W q BA)(m:Tn V W X)(k:q∉V)(g:w.heap.size<=q)(h:∀b∈V,w.heap.size<=b)(d:q<W.heap.size)(c:Zz w W)(e:RV W.heap.size X a)(j:∀b,p b->b<w.heap.size):
 X.there q 0 a.toArray.size/\Aa (X.setCells q 0 a.toArray.toList) q a/\∃f,Ending.returned (.agg a.toArray)=.returned (.agg f.toArray)/\Dw p (X.setCells q 0 a.toArray.toList) f/\Zz w (X.setCells q 0 a.toArray.toList):=
 Rd l m k g h d c e.len.1 ((e.K (AI q a 0 X) (by simpa using d)).p (fun b i=>by have:=j b i;have:=c.size;omega))
theorem Abc{p:Nat->Prop}{a:Zj}(l:Aa W q BA)(h:Tn V W X)(k:q∉V)(d:w.heap.size<=q)(e:∀b∈V,w.heap.size<=b)(j:q<W.heap.size)(c:Zz w W)(g:Dw p w a):
 X.there q 0 a.toArray.size/\Aa (X.setCells q 0 a.toArray.toList) q a/\∃i,Ending.returned (.agg a.toArray)=.returned (.agg i.toArray)/\Dw p (X.setCells q 0 a.toArray.toList) i/\Zz w (X.setCells q 0 a.toArray.toList):=by
 have f:=c.trans (h.below c.size e);exact Rd l h k d e j c g.zero.len.1 (g.below (f.trans ((AI q a 0 X).below f.size (by simpa using d))))
theorem We{p:Nat->Prop}(A:Zj)(r P J H:Int)(N L:Zi)(w:Zh)(hm:∀b,p b->b<w.heap.size)(hv:Dw p w A)(ht:N.size<=16)(yD:0<=P)(yI:P<8)(hn:L.size<=1)(zI:0<=J)(yG:J<40):
 Calls prog 37 #[.agg A.toArray,.agg #[Zg r,.string N,Zg P,.string L,Zg J,Zg H]] w fun e w'=>∃j,e=.returned (.agg j.toArray)/\Dw p w' j/\Zz w w':=by
 obtain⟨I,zF⟩:=Af (((w.alloc (.cells A.toArray 51)).alloc (.cells #[Zg r,.string N,Zg P,.string L,Zg J,Zg H] 99)).alloc (.cells Xo 51));obtain⟨W4,zH⟩:=Af (I.alloc (.cells Xk 157));obtain⟨W,hW⟩:=Af (W4.setCells I.heap.size 0 (Xj 1).toArray.toList);have b3:=(Bo zF).1;have z3:=(Bo zF).2.1;have b4:=(AB zH).1;have z4:=(AB zH).2.1;have x4:Aa W4 I.heap.size EX:=(AB (l:=EX) zH).2.2
 have t9:Tn [I.heap.size] W4 W:=by rw[hW];exact AI _ _ _ _
 have zW:Hid (W4.there I.heap.size 0 22):=x4.there;have hs:∀{B:Nat} {v:Value} {l:Zj},B<I.heap.size->Aa I B (v::l)->Aa W B (v::l):=fun hB h=>Aa.same (Aa.below h b4) (t9.block _ Yv Yt);have zV:=hv.zero.len.1;have hA:Aa W w.heap.size A:=by
  obtain⟨c,l,hl⟩:∃c l,A=c::l:=by cases A with|nil=>simp at zV|cons c l=>exact⟨c,l,rfl⟩
  have:=(Bo zF).2.2.1;rw[hl]at this |-;exact hs Yv this
 have HX:Hid (Aa W w.heap.size A/\Aa W (w.heap.size+1) [Zg r,.string N,Zg P,.string L,Zg J,Zg H]/\Aa W (w.heap.size+1+1) BA/\Aa W I.heap.size (dL (Fi 1 v0 ⟨#[]⟩ ⟨#[]⟩) BA)):=⟨hA,hs Yv (Bo zF).2.2.2.1,hs Yv (Bo (m:=BA) zF).2.2.2.2,by rw[hW];exact x4.au _ rfl⟩;have bW:Below w.heap.size w W:=b3.trans ((b4.mono b3.size).trans (t9.below Yv Yt))
 have R:Hid (Zz w W/\I.heap.size=w.heap.size+3/\W.heap.size=w.heap.size+4):=⟨bW,z3,by rw[hW,Jg];omega⟩;have S:Hid (A.length=17):=zV;have HV:Hid (Dw p w A):=hv;have zZ:Hid (∀u∈A,u.oneCell'=true):=hv.zero.len.2;have zX:=Yw zF;have zU:=Yw zH;have HW:=Yw hW;clear hW hv zF zH b3 z3 b4 z4 x4 t9 hs hA zV bW;go_enter func37,ntmps37;go_upto_region 1 with fail;rw[<-zX.o]
 go_upto_region 2 with(refine wpList_store_mid rfl 157 _ _ rfl I.heap.size 0 (Xi 1) rfl rfl (by rw[<-zU.o];exact zW.o) Yr Yr ?_);rw[<-zU.o,<-HW.o];clear zX zU HW zW;obtain⟨y0,_⟩:=HX.o.2.1 0 _ rfl
 go_upto_block 0 with fail
 go_cut [] (fun wx=>Hid (∃d j,Aa wx I.heap.size (dL d j)/\RV W.heap.size wx j/\Tn [I.heap.size] W wx))
 case first=>
  have zA:Hid (RV 0 W A):=(HV.o.below R.o.1).zero;obtain⟨u,a,hf,hA,zC,yC⟩:=zA.o.E;have HK:Hid (∀X,Zz W X->Bu X X.heap.size a.Y u.A/\AM X X.heap.size a.M u.ls):=fun X hX=>⟨(zC.N hX).st.k,(zC.N hX).st.l⟩;have M:Hid (∀X,Zz W X->Aa X w.heap.size A):=fun X hX=>Aa.same HX.o.1 (hX.block _ (by have:=R.o;omega))
  have zB:Hid (∀X,Zz W X->X.rangeAt w.heap.size 4 (Yh u.S u.E u.F u.C a.Y u.A.length a.j a.O u.ps.length a.U a.M u.ls.length a.T)):=fun X hX=>by have h:=M.o X hX;rw[hA]at h;exact Aa.fs [Zg u.wd,Zg u.lim,.slice a.X u.ss.length a.sc,.slice a.V u.D.length a.W] (Yh u.S u.E u.F u.C a.Y u.A.length a.j a.O u.ps.length a.U a.M u.ls.length a.T) (Xv u.L a.g u.G.length a.qc a.i u.ms.length a.mc u.Q u.P u.ro) h
  have O:Hid (∀X,Zz W X->Aa X (w.heap.size+1) [Zg r,.string N,Zg P,.string L,Zg J,Zg H]):=fun X hX=>Aa.below HX.o.2.1 hX;have zJ:Hid (u.A.length<=1048576/\u.ls.length<=1048576):=⟨hf.fit.st.k,hf.fit.st.l⟩
  have T:Hid (∀(d:Dd) j X,Zz W X->RV W.heap.size X j->((dL d j).length=22/\∀u∈dL d j,u.oneCell'=true)/\X.there I.heap.size 0 (dL d j).toArray.size/\∃d' us,Aa (X.setCells I.heap.size 0 (dL d j).toArray.toList) I.heap.size (dL d' us)/\RV W.heap.size (X.setCells I.heap.size 0 (dL d j).toArray.toList) us/\Tn [I.heap.size] W (X.setCells I.heap.size 0 (dL d j).toArray.toList)):=fun d j X hX y=>YK HX.o.2.2.2 (by have:=R.o;omega) hX y
  have zE:=Yw HX.o.2.2.1;have zY:=Yw HX.o.2.2.2;have bW:=R.o.1;clear hA zC yC hf HX;by_cases k1:r=1
  .have q1:(r==1)=true:=by simpa using k1
   clear k1;go_upto_region 4 with fail;refine Fc [11,12,13,14,15,16,17,18] 8 rfl _ rfl Yr Yr Yr Yr Yr Yq Yr (fun _ X=>Zz W X) (fun i X v=>match i with
    |0=>v=.agg A.toArray
    |1=>v=.agg #[Zg r,.string N,Zg P,.string L,Zg J,Zg H]
    |2=>v=Yx w.heap.size 4
    |3=>v=.agg (Yg u.S u.E u.F u.C a.Y u.A.length a.j a.O u.ps.length a.U a.M u.ls.length a.T)
    |4=>∃g c rs,v=.agg #[.string N,Yz g rs.length c]/\Ad X X.heap.size (some ⟨g,0,none⟩) rs/\rs.length<=4
    |5=>v=Yx (w.heap.size+1) 5
    |6=>v=Zg H
    |7=>∃d j,v=.agg (dL d j).toArray/\RV W.heap.size X j
    |_=>True) (fun X Y=>Zz X Y) ?_ Ae.drew ?_ ?_
   .intro i X Y v Z G;rcases i with _|_|_|_|_|_|_|_|_<;>first
     |exact G
     |exact Jc G Z
     |exact Jd G Z
   .intro i o k x X hi ho hk f F K q;rcases(show i=0\/i=1\/i=2\/i=3\/i=4\/i=5\/i=6\/i=7 by omega)with rfl|rfl|rfl|rfl|rfl|rfl|rfl|rfl<;>cases ho<;>simp only[Ce,Act.put,Zq,Zp,Zo]at q |-
    .refine wp_load_mid 51 _ rfl w.heap.size 0 rfl A _ (M.o X f).range underlying51 rfl (by rw[S.o];kernel_rfl) ?_;exact q.out _ X rfl Ae f
    .refine wp_load_mid 99 _ rfl (w.heap.size+1) 0 rfl [Zg r,.string N,Zg P,.string L,Zg J,Zg H] _ (O.o X f).range underlying99 rfl Yr ?_;exact q.out _ X rfl Ae f
    .go_simp;exact q.out _ X rfl Ae f
    .have d2:=F ⟨2,.data⟩ Yu Yp;rw[show x 2=Yx w.heap.size 4from d2]at q |-;refine wp_load_mid 30 _ rfl w.heap.size 4 rfl (Yh u.S u.E u.F u.C a.Y u.A.length a.j a.O u.ps.length a.U a.M u.ls.length a.T) _ (zB.o X f) underlying30 rfl Yr ?_;exact q.out _ X rfl Ae f
    .have d1:=F ⟨1,.data⟩ Yu Yp;have d3:=F ⟨3,.data⟩ Yu Yp;rw[show x 1=.agg #[Zg r,.string N,Zg P,.string L,Zg J,Zg H]from d1,show x 3=.agg (Yg u.S u.E u.F u.C a.Y u.A.length a.j a.O u.ps.length a.U a.M u.ls.length a.T) from d3]at q |-;go_simp
     refine(PS r P J H N L u.S u.E u.F u.C a.Y a.O a.M a.j u.ps.length a.U u.ls.length a.T u.A X (HK.o X f).1 zI Yv yD Yv zJ.o.1).mono ?_;rintro e X' ⟨g,c,rs,rfl,hs,hl,z⟩;exact q.out _ X' ⟨g,c,rs,rfl,hs,hl⟩ z (f.trans (z.mono f.size))
    .go_simp;exact q.out _ X rfl Ae f
    .have d5:=F ⟨5,.data⟩ Yu Yp;rw[show x 5=Yx (w.heap.size+1) 5from d5]at q |-;obtain⟨c1,_⟩:=O.o X f 5 _ rfl;go_simp;exact q.out _ X rfl Ae f
    .have d0:=F ⟨0,.data⟩ Yu Yp;have d4:=F ⟨4,.data⟩ Yu Yp;have d6:=F ⟨6,.data⟩ Yu Yp;obtain⟨g,c,rs,e4,hs,hl⟩:=d4;rw[show x 0=.agg A.toArray from d0,e4,show x 6=Zg H from d6]at q |-;go_simp;refine(YI A N (some ⟨g,0,none⟩) c rs H X (zA.o.below f) hs (fun e=>by cases e) Yv Yo).mono ?_;rintro e X' ⟨d,j,rfl,y,z⟩
     exact q.out _ X' ⟨d,j,rfl,y.mono f.size⟩ z (f.trans (z.mono f.size))
   .intro x X f G K q;simp only[Ce,Act.put,Zq,Zp,Zo];obtain⟨d,j,e1,y⟩:=G 7 Yq;have C:=Yw (T.o d j X f y);obtain⟨D,Q⟩:=Af (dL d j);rw[<-Q]at C e1;rw[e1];clear Q y G;refine wp_store_mid 157 _ _ rfl I.heap.size 0 D.toArray rfl rfl C.o.2.1 (by rw[List.size_toArray,C.o.1.1];kernel_rfl) (all_oneCell_toArray C.o.1.2) ?_;refine q.out _ _ ?_;clear q K;go_wp2_with fail;go_meet
    exact C.o.2.2
  have q1:(r==1)=false:=by simpa using k1
  clear k1;by_cases k2:r=2
  .have q2:(r==2)=true:=by simpa using k2
   clear k2;go_upto_region 6 with fail;refine Fc [21,22,23,24,25,26,27,28] 8 rfl _ rfl Yr Yr Yr Yr Yr Yq Yr (fun _ X=>Zz W X) (fun i X v=>match i with
    |0=>v=.agg A.toArray
    |1=>v=Yx (w.heap.size+1) 3
    |2=>v=.string L
    |3=>v=.agg #[Zg r,.string N,Zg P,.string L,Zg J,Zg H]
    |4=>v=Yx w.heap.size 4
    |5=>v=.agg (Yg u.S u.E u.F u.C a.Y u.A.length a.j a.O u.ps.length a.U a.M u.ls.length a.T)
    |6=>∃s,v=.string s
    |7=>∃d j,v=.agg (dL d j).toArray/\RV W.heap.size X j
    |_=>True) (fun X Y=>Zz X Y) ?_ Ae.drew ?_ ?_
   .intro i X Y v Z G;rcases i with _|_|_|_|_|_|_|_|_<;>first
     |exact G
     |exact Jc G Z
     |exact Jd G Z
   .intro i o k x X hi ho hk f F K q;rcases(show i=0\/i=1\/i=2\/i=3\/i=4\/i=5\/i=6\/i=7 by omega)with rfl|rfl|rfl|rfl|rfl|rfl|rfl|rfl<;>cases ho<;>simp only[Ce,Act.put,Zq,Zp,Zo]at q |-
    .refine wp_load_mid 51 _ rfl w.heap.size 0 rfl A _ (M.o X f).range underlying51 rfl (by rw[S.o];kernel_rfl) ?_;exact q.out _ X rfl Ae f
    .go_simp;exact q.out _ X rfl Ae f
    .have d1:=F ⟨1,.data⟩ Yu Yp;rw[show x 1=Yx (w.heap.size+1) 3from d1]at q |-;obtain⟨c1,_⟩:=O.o X f 3 _ rfl;go_simp;exact q.out _ X rfl Ae f
    .refine wp_load_mid 99 _ rfl (w.heap.size+1) 0 rfl [Zg r,.string N,Zg P,.string L,Zg J,Zg H] _ (O.o X f).range underlying99 rfl Yr ?_;exact q.out _ X rfl Ae f
    .go_simp;exact q.out _ X rfl Ae f
    .have d4:=F ⟨4,.data⟩ Yu Yp;rw[show x 4=Yx w.heap.size 4from d4]at q |-;refine wp_load_mid 30 _ rfl w.heap.size 4 rfl (Yh u.S u.E u.F u.C a.Y u.A.length a.j a.O u.ps.length a.U a.M u.ls.length a.T) _ (zB.o X f) underlying30 rfl Yr ?_;exact q.out _ X rfl Ae f
    .have d3:=F ⟨3,.data⟩ Yu Yp;have d5:=F ⟨5,.data⟩ Yu Yp;rw[show x 3=.agg #[Zg r,.string N,Zg P,.string L,Zg J,Zg H]from d3,show x 5=.agg (Yg u.S u.E u.F u.C a.Y u.A.length a.j a.O u.ps.length a.U a.M u.ls.length a.T) from d5]at q |-;go_simp
     refine(Mw r P J H N L u.S u.E u.F u.C a.Y a.O a.M a.j u.ps.length a.U u.ls.length a.T u.A X (HK.o X f).1 zI Yv zJ.o.1).mono ?_;rintro e X' ⟨s,rfl,z⟩;exact q.out _ X' ⟨s,rfl⟩ z (f.trans (z.mono f.size))
    .have d0:=F ⟨0,.data⟩ Yu Yp;have d2:=F ⟨2,.data⟩ Yu Yp;have d6:=F ⟨6,.data⟩ Yu Yp;obtain⟨s,e6⟩:=d6;rw[show x 0=.agg A.toArray from d0,show x 2=.string L from d2,e6]at q |-;go_simp;refine(Wa A L s X (zA.o.below f) Yo).mono ?_;rintro e X' ⟨d,j,rfl,y,z⟩;exact q.out _ X' ⟨d,j,rfl,y.mono f.size⟩ z (f.trans (z.mono f.size))
   .intro x X f G K q;simp only[Ce,Act.put,Zq,Zp,Zo];obtain⟨d,j,e1,y⟩:=G 7 Yq;have C:=Yw (T.o d j X f y);obtain⟨D,Q⟩:=Af (dL d j);rw[<-Q]at C e1;rw[e1];clear Q y G;refine wp_store_mid 157 _ _ rfl I.heap.size 0 D.toArray rfl rfl C.o.2.1 (by rw[List.size_toArray,C.o.1.1];kernel_rfl) (all_oneCell_toArray C.o.1.2) ?_;refine q.out _ _ ?_;clear q K;go_wp2_with fail;go_meet
    exact C.o.2.2
  have q2:(r==2)=false:=by simpa using k2
  clear k2;by_cases k3:r=3
  .have q3:(r==3)=true:=by simpa using k3
   clear k3;obtain⟨y1,_⟩:=O.o W Ae 3 _ rfl;go_wp2_with (refine wpList_load_mid rfl 51 _ rfl w.heap.size 0 rfl A _ (M.o W Ae).range underlying51 rfl (by rw[S.o];kernel_rfl) ?_);refine(SH A L W zA.o Yo).mono ?_;rintro o w1 ⟨d,j,rfl,y,z⟩;have C:=Yw (T.o d j w1 z y);obtain⟨D,Q⟩:=Af (dL d j);rw[<-Q]at C;rw[<-Q];clear Q y z HK M zB O T zE y1
   go_wp2_with (refine wpList_store_mid rfl 157 _ _ rfl I.heap.size 0 D.toArray rfl rfl C.o.2.1 (by rw[List.size_toArray,C.o.1.1];kernel_rfl) (all_oneCell_toArray C.o.1.2) ?_);go_meet;exact C.o.2.2
  have q3:(r==3)=false:=by simpa using k3
  clear k3;by_cases k4:r=4
  .have q4:(r==4)=true:=by simpa using k4
   clear k4;go_upto_region 10 with fail;refine Fc [37,38,39,40,41,42,43,44] 8 rfl _ rfl Yr Yr Yr Yr Yr Yq Yr (fun _ X=>Zz W X) (fun i X v=>match i with
    |0=>v=.agg A.toArray
    |1=>v=.agg #[Zg r,.string N,Zg P,.string L,Zg J,Zg H]
    |2=>v=Yx w.heap.size 4
    |3=>v=.agg (Yg u.S u.E u.F u.C a.Y u.A.length a.j a.O u.ps.length a.U a.M u.ls.length a.T)
    |4=>∃s,v=.string s
    |5=>v=Yx (w.heap.size+1) 5
    |6=>v=Zg H
    |7=>∃d j,v=.agg (dL d j).toArray/\RV W.heap.size X j
    |_=>True) (fun X Y=>Zz X Y) ?_ Ae.drew ?_ ?_
   .intro i X Y v Z G;rcases i with _|_|_|_|_|_|_|_|_<;>first
     |exact G
     |exact Jc G Z
     |exact Jd G Z
   .intro i o k x X hi ho hk f F K q;rcases(show i=0\/i=1\/i=2\/i=3\/i=4\/i=5\/i=6\/i=7 by omega)with rfl|rfl|rfl|rfl|rfl|rfl|rfl|rfl<;>cases ho<;>simp only[Ce,Act.put,Zq,Zp,Zo]at q |-
    .refine wp_load_mid 51 _ rfl w.heap.size 0 rfl A _ (M.o X f).range underlying51 rfl (by rw[S.o];kernel_rfl) ?_;exact q.out _ X rfl Ae f
    .refine wp_load_mid 99 _ rfl (w.heap.size+1) 0 rfl [Zg r,.string N,Zg P,.string L,Zg J,Zg H] _ (O.o X f).range underlying99 rfl Yr ?_;exact q.out _ X rfl Ae f
    .go_simp;exact q.out _ X rfl Ae f
    .have d2:=F ⟨2,.data⟩ Yu Yp;rw[show x 2=Yx w.heap.size 4from d2]at q |-;refine wp_load_mid 30 _ rfl w.heap.size 4 rfl (Yh u.S u.E u.F u.C a.Y u.A.length a.j a.O u.ps.length a.U a.M u.ls.length a.T) _ (zB.o X f) underlying30 rfl Yr ?_;exact q.out _ X rfl Ae f
    .have d1:=F ⟨1,.data⟩ Yu Yp;have d3:=F ⟨3,.data⟩ Yu Yp;rw[show x 1=.agg #[Zg r,.string N,Zg P,.string L,Zg J,Zg H]from d1,show x 3=.agg (Yg u.S u.E u.F u.C a.Y u.A.length a.j a.O u.ps.length a.U a.M u.ls.length a.T) from d3]at q |-;go_simp
     refine(Mw r P J H N L u.S u.E u.F u.C a.Y a.O a.M a.j u.ps.length a.U u.ls.length a.T u.A X (HK.o X f).1 zI Yv zJ.o.1).mono ?_;rintro e X' ⟨s,rfl,z⟩;exact q.out _ X' ⟨s,rfl⟩ z (f.trans (z.mono f.size))
    .go_simp;exact q.out _ X rfl Ae f
    .have d5:=F ⟨5,.data⟩ Yu Yp;rw[show x 5=Yx (w.heap.size+1) 5from d5]at q |-;obtain⟨c1,_⟩:=O.o X f 5 _ rfl;go_simp;exact q.out _ X rfl Ae f
    .have d0:=F ⟨0,.data⟩ Yu Yp;have d4:=F ⟨4,.data⟩ Yu Yp;have d6:=F ⟨6,.data⟩ Yu Yp;obtain⟨s,e4⟩:=d4;rw[show x 0=.agg A.toArray from d0,e4,show x 6=Zg H from d6]at q |-;go_simp;refine(SI A s H X (zA.o.below f)).mono ?_;rintro e X' ⟨d,j,rfl,y,z⟩;exact q.out _ X' ⟨d,j,rfl,y.mono f.size⟩ z (f.trans (z.mono f.size))
   .intro x X f G K q;simp only[Ce,Act.put,Zq,Zp,Zo];obtain⟨d,j,e1,y⟩:=G 7 Yq;have C:=Yw (T.o d j X f y);obtain⟨D,Q⟩:=Af (dL d j);rw[<-Q]at C e1;rw[e1];clear Q y G;refine wp_store_mid 157 _ _ rfl I.heap.size 0 D.toArray rfl rfl C.o.2.1 (by rw[List.size_toArray,C.o.1.1];kernel_rfl) (all_oneCell_toArray C.o.1.2) ?_;refine q.out _ _ ?_;clear q K;go_wp2_with fail;go_meet
    exact C.o.2.2
  have q4:(r==4)=false:=by simpa using k4
  clear k4;by_cases k5:r=5
  .have q5:(r==5)=true:=by simpa using k5
   clear k5;go_upto_region 12 with fail;refine Fc [47,48,49,50,51,52] 6 rfl _ rfl Yr Yr Yr Yr Yr Yq Yr (fun _ X=>Zz W X) (fun i X v=>match i with
    |0=>v=.agg A.toArray
    |1=>v=.agg #[Zg r,.string N,Zg P,.string L,Zg J,Zg H]
    |2=>v=Yx w.heap.size 4
    |3=>v=.agg (Yg u.S u.E u.F u.C a.Y u.A.length a.j a.O u.ps.length a.U a.M u.ls.length a.T)
    |4=>∃n,v=Zg n
    |5=>∃d j,v=.agg (dL d j).toArray/\RV W.heap.size X j
    |_=>True) (fun X Y=>Zz X Y) ?_ Ae.drew ?_ ?_
   .intro i X Y v Z G;rcases i with _|_|_|_|_|_|_<;>first
     |exact G
     |exact Jc G Z
     |exact Jd G Z
   .intro i o k x X hi ho hk f F K q;rcases(show i=0\/i=1\/i=2\/i=3\/i=4\/i=5 by omega)with rfl|rfl|rfl|rfl|rfl|rfl<;>cases ho<;>simp only[Ce,Act.put,Zq,Zp,Zo]at q |-
    .refine wp_load_mid 51 _ rfl w.heap.size 0 rfl A _ (M.o X f).range underlying51 rfl (by rw[S.o];kernel_rfl) ?_;exact q.out _ X rfl Ae f
    .refine wp_load_mid 99 _ rfl (w.heap.size+1) 0 rfl [Zg r,.string N,Zg P,.string L,Zg J,Zg H] _ (O.o X f).range underlying99 rfl Yr ?_;exact q.out _ X rfl Ae f
    .go_simp;exact q.out _ X rfl Ae f
    .have d2:=F ⟨2,.data⟩ Yu Yp;rw[show x 2=Yx w.heap.size 4from d2]at q |-;refine wp_load_mid 30 _ rfl w.heap.size 4 rfl (Yh u.S u.E u.F u.C a.Y u.A.length a.j a.O u.ps.length a.U a.M u.ls.length a.T) _ (zB.o X f) underlying30 rfl Yr ?_;exact q.out _ X rfl Ae f
    .have d1:=F ⟨1,.data⟩ Yu Yp;have d3:=F ⟨3,.data⟩ Yu Yp;rw[show x 1=.agg #[Zg r,.string N,Zg P,.string L,Zg J,Zg H]from d1,show x 3=.agg (Yg u.S u.E u.F u.C a.Y u.A.length a.j a.O u.ps.length a.U a.M u.ls.length a.T) from d3]at q |-;go_simp
     refine(PR r P J H N L u.S u.E u.F u.C a.Y a.O a.M u.A.length a.j u.ps.length a.U a.T u.ls X (HK.o X f).2 zI Yv zJ.o.2).mono ?_;rintro e X' ⟨n,rfl,z⟩;exact q.out _ X' ⟨n,rfl⟩ z (f.trans (z.mono f.size))
    .have d0:=F ⟨0,.data⟩ Yu Yp;have d4:=F ⟨4,.data⟩ Yu Yp;obtain⟨n,e4⟩:=d4;rw[show x 0=.agg A.toArray from d0,e4]at q |-;go_simp;refine(PQ A n X (zA.o.below f)).mono ?_;rintro e X' ⟨d,j,rfl,y,z⟩;exact q.out _ X' ⟨d,j,rfl,y.mono f.size⟩ z (f.trans (z.mono f.size))
   .intro x X f G K q;simp only[Ce,Act.put,Zq,Zp,Zo];obtain⟨d,j,e1,y⟩:=G 5 Yq;have C:=Yw (T.o d j X f y);obtain⟨D,Q⟩:=Af (dL d j);rw[<-Q]at C e1;rw[e1];clear Q y G;refine wp_store_mid 157 _ _ rfl I.heap.size 0 D.toArray rfl rfl C.o.2.1 (by rw[List.size_toArray,C.o.1.1];kernel_rfl) (all_oneCell_toArray C.o.1.2) ?_;refine q.out _ _ ?_;clear q K;go_wp2_with fail;go_meet
    exact C.o.2.2
  have q5:(r==5)=false:=by simpa using k5
  clear k5;by_cases k6:r=6
  .have q6:(r==6)=true:=by simpa using k6
   clear k6;obtain⟨y1,_⟩:=O.o W Ae 5 _ rfl;go_wp2_with (refine wpList_load_mid rfl 51 _ rfl w.heap.size 0 rfl A _ (M.o W Ae).range underlying51 rfl (by rw[S.o];kernel_rfl) ?_);refine(Wb A H W zA.o).mono ?_;rintro o w1 ⟨d,j,rfl,y,z⟩;have C:=Yw (T.o d j w1 z y);obtain⟨D,Q⟩:=Af (dL d j);rw[<-Q]at C;rw[<-Q];clear Q y z HK M zB O T zE y1
   go_wp2_with (refine wpList_store_mid rfl 157 _ _ rfl I.heap.size 0 D.toArray rfl rfl C.o.2.1 (by rw[List.size_toArray,C.o.1.1];kernel_rfl) (all_oneCell_toArray C.o.1.2) ?_);go_meet;exact C.o.2.2
  have q6:(r==6)=false:=by simpa using k6
  clear k6;by_cases k8:r=8
  .have q8:(r==8)=true:=by simpa using k8
   clear k8;go_wp2_with (refine wpList_load_mid rfl 51 _ rfl w.heap.size 0 rfl A _ (M.o W Ae).range underlying51 rfl (by rw[S.o];kernel_rfl) ?_);refine(Ur A W zA.o).mono ?_;rintro o w1 ⟨j,rfl,y,z⟩;have U:Hid (j.length=17/\∀u∈j,u.oneCell'=true):=y.len;have HE:=Yw (Oo zE.o (Tn.of (V:=[]) z) Yu (show w.heap.size<=w.heap.size+1+1 by omega) Yu (by have:=R.o;omega) bW y hm)
   clear y z HK M zB O T zE;go_wp2_with (refine wpList_store_mid rfl 51 _ _ rfl (w.heap.size+1+1) 0 j.toArray rfl rfl HE.o.1 (by rw[List.size_toArray,U.o.1];kernel_rfl) (all_oneCell_toArray U.o.2) ?_);exact bodyPost_ret (AU results37 _ _ (w.heap.size+1+1) j _ rfl (Aa.range HE.o.2.1) underlying51 rfl (by rw[U.o.1];kernel_rfl)) rfl HE.o.2.2
  have q8:(r==8)=false:=by simpa using k8
  clear k8;by_cases k9:r=9
  .have q9:(r==9)=true:=by simpa using k9
   clear k9;obtain⟨y1,_⟩:=O.o W Ae 4 _ rfl;have yH:J.tmod 6=J%6:=Int.tmod_eq_emod_of_nonneg zI;go_wp2_with (refine wpList_load_mid rfl 51 _ rfl w.heap.size 0 rfl A _ (M.o W Ae).range underlying51 rfl (by rw[S.o];kernel_rfl) ?_);refine(Wd A (J%6) W zA.o Yv).mono ?_;rintro o w1 ⟨j,rfl,y,z⟩;have U:Hid (j.length=17/\∀u∈j,u.oneCell'=true):=y.len
   have HE:=Yw (Oo zE.o (Tn.of (V:=[]) z) Yu (show w.heap.size<=w.heap.size+1+1 by omega) Yu (by have:=R.o;omega) bW y hm);clear y z HK M zB O T zE;go_wp2_with (refine wpList_store_mid rfl 51 _ _ rfl (w.heap.size+1+1) 0 j.toArray rfl rfl HE.o.1 (by rw[List.size_toArray,U.o.1];kernel_rfl) (all_oneCell_toArray U.o.2) ?_)
   exact bodyPost_ret (AU results37 _ _ (w.heap.size+1+1) j _ rfl (Aa.range HE.o.2.1) underlying51 rfl (by rw[U.o.1];kernel_rfl)) rfl HE.o.2.2
  have q9:(r==9)=false:=by simpa using k9
  clear k9;by_cases k10:r=10
  .have yE:(r==10)=true:=by simpa using k10
   clear k10;obtain⟨y1,_⟩:=O.o W Ae 4 _ rfl;go_wp2_with (refine wpList_load_mid rfl 51 _ rfl w.heap.size 0 rfl A _ (M.o W Ae).range underlying51 rfl (by rw[S.o];kernel_rfl) ?_);refine(Us A J W zA.o).mono ?_;rintro o w1 ⟨c,j,n,E,rfl,ho,y,z⟩;have U:Hid (j.length=17/\∀u∈j,u.oneCell'=true):=y.len
   have HE:=Yw (Oo zE.o (Tn.of (V:=[]) z) Yu (show w.heap.size<=w.heap.size+1+1 by omega) Yu (by have:=R.o;omega) bW y hm);obtain⟨a0,a1,a2,a3,a4,a5,a6,a7,a8,a9,zK,zM,zN,zO,zP,zR,zS,rfl⟩:=Iu y.len.1
   have yF:∀X:Zh,(Instr.field 169 (.agg (Jm c [a0,a1,a2,a3,a4,a5,a6,a7,a8,a9,zK,zM,zN,zO,zP,zR,zS] n E).toArray) 1).run prog X=.ok (.agg #[a0,a1,a2,a3,a4,a5,a6,a7,a8,a9,zK,zM,zN,zO,zP,zR,zS]) X:=fun _=>by kernel_rfl
   clear y z HK M zB O T zE;go_wp2_with (refine wpList_store_mid rfl 51 _ _ rfl (w.heap.size+1+1) 0 [a0,a1,a2,a3,a4,a5,a6,a7,a8,a9,zK,zM,zN,zO,zP,zR,zS].toArray rfl rfl HE.o.1 (by rw[List.size_toArray,U.o.1];kernel_rfl) (all_oneCell_toArray U.o.2) ?_)
   exact bodyPost_ret (AU results37 _ _ (w.heap.size+1+1) [a0,a1,a2,a3,a4,a5,a6,a7,a8,a9,zK,zM,zN,zO,zP,zR,zS] _ rfl (Aa.range HE.o.2.1) underlying51 rfl (by rw[U.o.1];kernel_rfl)) rfl HE.o.2.2
  have yE:(r==10)=false:=by simpa using k10
  clear k10;go_wp2_with fail;go_meet;exact⟨_,BA,zY.o,YJ _ _,Tn.of Ae⟩
 case rest=>
  revert wc;intro wc hcut;obtain⟨d,j,xD,y,tW⟩:=hcut.o;clear hcut;have zG:Hid (j.length=17/\∀u∈j,u.oneCell'=true):=y.len;obtain⟨c0,_,_,_,_,rD⟩:=Aay xD zG.o.1;have HE:=Yw (Oo HX.o.2.2.1 tW (by simp;have:=R.o;omega) (show w.heap.size<=w.heap.size+1+1 by omega) (by simp;have:=R.o;omega) (by have:=R.o;omega) R.o.1 (y.mono (Zx)) hm)
  have zT:=Yw (Abc HX.o.2.2.1 tW (by simp;have:=R.o;omega) (show w.heap.size<=w.heap.size+1+1 by omega) (by simp;have:=R.o;omega) (by have:=R.o;omega) R.o.1 HV.o);have M:Hid (wc.rangeAt w.heap.size 0 A):=(Aa.same HX.o.1 (tW.block _ (by have:=R.o;omega) (by simp;have:=R.o;omega))).range;have yA:Hid (wc.rangeAt I.heap.size 1 j):=rD;clear rD xD y tW HX R;by_cases hc:d.c=0
  .have yB:(d.c==0)=true:=by simpa using hc
   clear hc;go_wp2_with (first
    |refine wpList_load_mid rfl 51 _ rfl I.heap.size 1 rfl j _ yA.o underlying51 rfl (by rw[zG.o.1];kernel_rfl) ?_
    |refine wpList_store_mid rfl 51 _ _ rfl (w.heap.size+1+1) 0 j.toArray rfl rfl HE.o.1 (by rw[List.size_toArray,zG.o.1];kernel_rfl) (all_oneCell_toArray zG.o.2) ?_)
   exact bodyPost_ret (AU results37 _ _ (w.heap.size+1+1) j _ rfl (Aa.range HE.o.2.1) underlying51 rfl (by rw[zG.o.1];kernel_rfl)) rfl HE.o.2.2
  .have yB:(d.c==0)=false:=by simpa using hc
   clear hc;go_wp2_with (first
    |refine wpList_load_mid rfl 51 _ rfl w.heap.size 0 rfl A _ M.o underlying51 rfl (by rw[S.o];kernel_rfl) ?_
    |refine wpList_store_mid rfl 51 _ _ rfl (w.heap.size+1+1) 0 A.toArray rfl rfl zT.o.1 (by rw[List.size_toArray,S.o];kernel_rfl) (all_oneCell_toArray zZ.o) ?_)
   exact bodyPost_ret (AU results37 _ _ (w.heap.size+1+1) A _ rfl (Aa.range zT.o.2.1) underlying51 rfl (by rw[S.o];kernel_rfl)) rfl zT.o.2.2
structure Gu (w wr:Zh) (b:Nat) (a:Zk) (n c:Nat) (p k:Int) (q:Nat) (vs:Zj):Prop where
 rd:∃p',AT wr b a n c p'/\p<=p'/\p'<=p+k
 gr:w.grownBy wr (some b)
 z:Aa wr w.heap.size BA
 x:Aa wr q vs
 rv:Dw (fun g=>g<=w.heap.size\/g=q) wr vs
 lt:w.heap.size<q
theorem Dw.less{p a:Nat->Prop}{b:Zj}(h:Dw p w b)(i:∀g,a g->p g):Dw a w b:=by obtain⟨u,e,h⟩:=h;exact⟨u,e,fun V c d=>h V c (fun g f=>i g (d g f))⟩
theorem Gu.co(h:Gu w wr b a n c p k q d)(f:wr.grownBy X (some b))(j:b<w.heap.size):Aa X q d/\Dw (fun g=>g<=w.heap.size\/g=q) X d/\Aa X w.heap.size BA/\w.grownBy X (some b):=by
 have m:=h.lt;refine⟨?_,h.rv.K (Tn.grown (V:=[b]) f Yu) Yt,h.z.bu f Yv,Ar h.gr f⟩;obtain⟨v,l,e⟩:∃v l,d=v::l:=by
  have:=h.rv.zero.len.1;cases d with
  |nil=>simp at this
  |cons v l=>exact⟨v,l,rfl⟩
 have i:=h.x;rw[e]at i |-;exact i.bu f Yv
theorem Gu.go{e:Zj}(h:Gu w wr b a n c p k q e)(j:∃d,AT X b a n c d/\p<=d/\d<=p+k')(i:wr.grownBy X (some b))(g:b<w.heap.size):Gu w X b a n c p k' q e:=
 have f:=h.co i g
 ⟨j,f.2.2.2,f.2.2.1,f.1,f.2.1,h.lt⟩
theorem Gu.more{d:Int}{e:Zj}(h:Gu w wr b a n c p k q e)(t:k<=d):Gu w wr b a n c p d q e:=by obtain⟨⟨r,f,g,s⟩,i,j,l,m,o⟩:=h;exact⟨⟨r,f,g,Yv⟩,i,j,l,m,o⟩
theorem Gu.fin(h:Gu w wr b a n c p k q d)(m:d.length=17)(o:b<w.heap.size):
 wr.there w.heap.size 0 d.toArray.size/\Aa (wr.setCells w.heap.size 0 d.toArray.toList) w.heap.size d/\Dw (fun g=>g<w.heap.size) (wr.setCells w.heap.size 0 d.toArray.toList) d/\(∃j,AT (wr.setCells w.heap.size 0 d.toArray.toList) b a n c j/\p<=j/\j<=p+k)/\w.grownBy (wr.setCells w.heap.size 0 d.toArray.toList) (some b):=by
 have f:=AI w.heap.size d 0 wr;have e:=h.gr;refine⟨?_,h.z.au d (by rw[m];rfl),Dw.less (h.rv.K f Yu) (fun g e=> .inl Yv),?_,⟨f.os.trans e.os,f.tape.trans e.tape,f.output.trans e.output,Zm e.size f.size,fun i l r=>(f.block i (Zr l e.size) Yt).trans (e.block i l r)⟩⟩
 .rw[show d.toArray.size=17 from by rw[List.size_toArray];exact m];exact h.z.there
 .obtain⟨j,s,t⟩:=h.rd;exact⟨j,s.K f (by simpa using o) Yt,t⟩
theorem RV.new{f:Nat}{c j:Zh}{l:Zj}(h:RV m c l)(t:f<m)(a:Zz c j):Dw (fun g=>g<=f\/g=c.heap.size) j l:=by
 obtain⟨u,r,h⟩:=h;refine⟨u,r,fun V o q b=>h (V.filter (·<=f)) o (fun g s=>by have:=(List.mem_filter.1 s).2;simp at this;omega) ⟨b.os.trans a.os,b.tape.trans a.tape,b.output.trans a.output,Zm a.size b.size,fun i k n=>(b.block i (Zr k a.size) (fun d=> ?_)).trans (a.block i k)⟩⟩;rcases q i d with e|e
 .exact n (List.mem_filter.2 ⟨d,by simpa using e⟩)
 .omega
theorem Gu.put{j vs:Zj}(z:∃f,AT X b a n c f/\p<=f/\f<=p+k)(e:w.grownBy X (some b))(s:Aa X w.heap.size BA)(r:Aa X q j)(m:j.length=17)(o:Dw (fun g=>g<=w.heap.size\/g=q) X vs)(y:w.heap.size<q)(A:b<w.heap.size):
 (vs.length=17/\∀u∈vs,u.oneCell'=true)/\X.there q 0 vs.toArray.size/\Gu w (X.setCells q 0 vs.toArray.toList) b a n c p k q vs:=by
 have h:=o.zero.len;have d:=AI q vs 0 X;refine⟨h,?_,?_,?_,?_,?_,o.K d Yu,y⟩
 .rw[show vs.toArray.size=j.length from by rw[List.size_toArray,m];exact h.1];exact r.there
 .obtain⟨f,v,x⟩:=z;exact⟨f,v.K d Yt Yt,x⟩
 .exact⟨d.os.trans e.os,d.tape.trans e.tape,d.output.trans e.output,Zm e.size d.size,fun i l t=>(d.block i (Zr l e.size) Yt).trans (e.block i l t)⟩
 .exact Aa.same s (d.block _ s.lt Yt)
 .exact r.au vs (by rw[m];exact h.1)
theorem QC(b:Nat)(a:Zk)(n c:Nat)(p:Int)(w:Zh)(h:AT w b a n c p)(hp:0<=p)(yL:p<=700000):
 Calls prog 12 #[.pointer (some ⟨b,0,none⟩)] w fun e w'=>∃vs,e=.returned (.agg vs.toArray)/\Dw (fun g=>g<w.heap.size) w' vs/\Hu w w' b a n c p 40000:=by
 have L:=h.lt;obtain⟨W,U⟩:=Af (w.alloc (.cells Xo 51));have bW:=(AB U).1;have zW:=(AB U).2.1;have HZ:Hid (Aa W w.heap.size BA):=(AB (l:=BA) U).2.2;have HR:Hid (AT W b a n c p/\w.grownBy W (some b)):=⟨h.below bW,Al _ bW⟩;have zK:Hid (W.heap.size=w.heap.size+1):=zW;have HW:Hid _:=U;clear U bW zW h;go_enter func12,ntmps12;go_upto_region 2 with fail;rw[<-HW.o];clear HW;go_wp2_with fail
 refine(Bq b a n c p 6 W HR.o.1 hp (by omega) (by omega) (by omega)).mono ?_;rintro e w1 ⟨r1,rfl,yU,yV,y,g1⟩;have P:Hid _:=Za y g1;clear y g1
 go_upto_if 9 with fail
 go_cut [3,9] (fun yC _ wx=>Hid (∃(l d:Int),yC=Zg l/\AT wx b a n c d/\p<=d/\d<=p+2/\W.grownBy wx (some b)))
 case first=>
  by_cases q1:r1=0
  .have yD:(r1==0)=true:=by simpa using q1
   clear q1;go_wp2_with fail;refine(Bq b a n c (p+1) 60 w1 P.o.1 (by omega) (by omega) (by omega) (by omega)).mono ?_;rintro e w2 ⟨r2,rfl,yW,yX,h2,g2⟩;have HM:Hid (AT w2 b a n c (p+1+1)/\W.grownBy w2 (some b)):=⟨h2,Ar P.o.2 g2⟩;clear h2 g2 P HR HZ;go_wp2;go_meet;exact⟨_,p+1+1,rfl,HM.o.1,by omega,by omega,HM.o.2⟩
  .have yD:(r1==0)=false:=by simpa using q1
   clear q1;go_wp2_with fail;go_meet;exact⟨_,p+1,rfl,P.o.1,by omega,by omega,P.o.2⟩
 case rest=>
  revert wc;intro w3 hcut;obtain⟨l,p1,rfl,zR,yM,yH,zG⟩:=hcut.o;clear hcut P;have zA:Hid (w.grownBy w3 (some b)/\W.grownBy w3 (some b)):=⟨Ar HR.o.2 zG,zG⟩;clear zG;go_wp2_with fail;refine(NP b a n c p1 w3 zR (by omega) (by omega)).mono ?_;rintro e w4 ⟨wd,rfl,_,zS,zH⟩;have B:Hid (w.grownBy w4 (some b)/\W.grownBy w4 (some b)/\AT w4 b a n c (p1+1)):=⟨Ar zA.o.1 zH,Ar zA.o.2 zH,zS⟩;clear zR zS zH zA
  go_wp2_with fail;refine Calls.mono (Wc wd l none none 0 0 [] [] w4 (.inl rfl) (.inl rfl) (fun _=>⟨rfl,rfl⟩) (fun _=>⟨rfl,rfl⟩) ⟨by simp,by simp,by simp,by simp⟩) ?_;rintro e G ⟨cd,vs,rfl,zI,J⟩;have HL:Hid (vs.length=17/\∀u∈vs,u.oneCell'=true):=zI.len;have O:=J.size;obtain⟨W5,I⟩:=Af (G.alloc (.cells Xo 51));have H:=(AB I).1;have yF:=(AB I).2.1
  have x5:Aa W5 G.heap.size BA:=(AB (l:=BA) I).2.2;have E:w.heap.size<G.heap.size:=by have:=B.o.2.1.size;have:=zK.o;omega
  have s:Hid _:=Gu.put (w:=w) (X:=W5) (p:=p) (k:=4) (q:=G.heap.size) (vs:=vs) ⟨p1+1,(B.o.2.2.below J).below H,by omega,by omega⟩ (Ar B.o.1 (Al _ (J.trans (H.mono O)))) (Aa.below (Aa.below (HZ.o.bu B.o.2.1 (by omega)) J) H) x5 rfl (zI.new (by have:=B.o.2.1.size;have:=zK.o;omega) H) E L;obtain⟨W6,zF⟩:=Af (W5.setCells G.heap.size 0 vs.toArray.toList);rw[<-zF]at s;have zB:Hid _:=I
  have zJ:Hid _:=zF;clear zI J O H yF x5 B I zF HR HZ;have S:Hid _:=Za s.o.2.2 HL.o.1;go_upto_region 5 with(refine wpList_store_mid rfl 51 _ _ rfl G.heap.size 0 vs.toArray rfl rfl (by rw[<-zB.o];exact s.o.2.1) (by rw[List.size_toArray,HL.o.1];kernel_rfl) (all_oneCell_toArray HL.o.2) ?_);rw[<-zB.o,<-zJ.o];clear zB zJ s HL;obtain⟨q,hq⟩:=Af G.heap.size;rw[<-hq]at S E |-;clear hq
  obtain⟨p6,zT,yN,yI⟩:=S.o.1.rd;go_wp2_with fail;refine(Bq b a n c p6 14 W6 zT (by omega) (by omega) (by omega) (by omega)).mono ?_;rintro e w7 ⟨n7,rfl,yQ,yR,zU,zN⟩;go_wp2_with fail;refine(Bq b a n c (p6+1) 6 w7 zU (by omega) (by omega) (by omega) (by omega)).mono ?_;rintro e w8 ⟨n8,rfl,yS,yT,zV,zO⟩
  have H8:Hid (Gu w w8 b a n c p 6 q vs/\vs.length=17):=⟨S.o.1.go ⟨p6+1+1,zV,by omega,by omega⟩ (Ar zN zO) L,S.o.2⟩;clear zT zU zV zN zO S
  go_upto_if 25 with fail
  go_cut [6,25] (fun nn _ wx=>Hid (∃k:Nat,nn=Zg k/\k<=25/\wx=w8))
  case first=>
   by_cases q8:n8=0
   .have yE:(n8==0)=true:=by simpa using q8
    clear q8;go_wp2;go_meet;exact⟨n7.toNat+12,by go_num,by omega,rfl⟩
   .have yE:(n8==0)=false:=by simpa using q8
    clear q8;go_wp2_with fail;go_meet;exact⟨n7.toNat,by congr 1;omega,by omega,rfl⟩
  case rest=>
   revert wc;intro w9 hcut;obtain⟨k9,rfl,zZ,rfl⟩:=hcut.o;clear hcut;go_wp2
   go_loopw [6] (fun nn wr=>∃(k:Nat) (f:Zj),nn=Zg k/\k<=25/\Hid (Gu w wr b a n c p (6+1200 *(25 -k)) q f/\f.length=17)) (fun nn _=>(intOf nn).toNat)
   case atStart=>exact⟨k9,vs,rfl,zZ,H8.o.1.more (by omega),H8.o.2⟩
   case round=>
    clear H8;obtain⟨k,f,rfl,hk,r⟩:=hrel;obtain⟨p0,zP,yK,yG⟩:=r.o.1.rd;by_cases hk0:0<k
    .obtain⟨Z,rfl⟩:∃Z,k=Z+1:=⟨k -1,by omega⟩;have yJ:decide ((0:Int)<((Z+1:Nat):Int))=true:=by simp
     have zX:Hid (AT wr b a n c p0):=zP;have yO:q<wr.heap.size:=by
      obtain⟨v,l,e⟩:∃v l,f=v::l:=by
       have:=r.o.2;cases f with
       |nil=>simp at this
       |cons v l=>exact⟨v,l,rfl⟩
      have hx:=r.o.1.x;rw[e]at hx;exact hx.lt
     have C:Hid (∀X,wr.grownBy X (some b)->Aa X q f/\Dw (fun g=>g<=w.heap.size\/g=q) X f/\Aa X w.heap.size BA/\w.grownBy X (some b)):=fun X hX=>by have y:=r.o.1.co hX L;exact⟨y.1,y.2.1,y.2.2.1,y.2.2.2⟩
     clear zP;go_upto_region 10 with fail;refine Fc [32,33,34,35] 4 rfl _ rfl (by kernel_rfl) (by kernel_rfl) (by kernel_rfl) (by kernel_rfl) (by kernel_rfl) (by decide) (by kernel_rfl) (fun j X=>(∃d,AT X b a n c d/\p0<=d/\d<=p0+300 *j)/\wr.grownBy X (some b)) (fun i X v=>match i with
      |0=>v=.agg f.toArray
      |1=>v=.pointer (some ⟨b,0,none⟩)
      |2=>∃kd R N Q M tk,v=.agg #[Zg kd,.string R,Zg N,.string Q,Zg M,Zg tk]/\R.size<=16/\0<=N/\N<8/\Q.size<=1/\0<=M/\M<40
      |3=>∃A,v=.agg A.toArray/\Dw (fun g=>g<=w.heap.size\/g=q) X A
      |_=>True) (fun X Y=>X.grownBy Y (some b)) ?_ ⟨⟨p0,zX.o.drew,by omega,by omega⟩,⟨rfl,rfl,rfl,Zx,fun _ _ _=>rfl⟩⟩ ?_ ?_
     .intro i X Y v zY F;rcases i with _|_|_|_|_
      .exact F
      .exact F
      .exact F
      .obtain⟨A,y,h2⟩:=F;exact⟨A,y,h2.K (Tn.grown (V:=[b]) zY (by simp)) (by simp;omega)⟩
      .exact F
     .intro i o j x X hi ho hj z hd K t;rcases(show i=0\/i=1\/i=2\/i=3 by omega)with rfl|rfl|rfl|rfl<;>cases ho<;>simp only[Ce,Act.put,Zq,Zp,Zo]at t |-
      .refine wp_load_mid 51 _ rfl q 0 rfl f _ (C.o X z.2).1.range underlying51 rfl (by rw[r.o.2];kernel_rfl) ?_;exact t.out _ X rfl (Bf _ _) ⟨z.1.imp (fun d h=>⟨h.1,h.2.1,by omega⟩),z.2⟩
      .go_simp;exact t.out _ X rfl (Bf _ _) ⟨z.1.imp (fun d h=>⟨h.1,h.2.1,by omega⟩),z.2⟩
      .have d1:=hd ⟨1,.data⟩ (by simp) (by rfl);rw[show x 1=.pointer (some ⟨b,0,none⟩)from d1]at t |-;obtain⟨⟨d,D,zC,zE⟩,m⟩:=z;go_simp;refine(XR b a n c d X D (by omega) (by omega)).mono ?_;rintro e X' ⟨kd,R,N,Q,M,tk,rfl,a1,a2,a3,a4,a5,a6,⟨p2,yB,h3,h4⟩,zM⟩;exact t.out _ X' ⟨kd,R,N,Q,M,tk,rfl,a1,a2,a3,a4,a5,a6⟩ zM ⟨⟨p2,yB,by omega,by omega⟩,Ar m zM⟩
      .have d0:=hd ⟨0,.data⟩ (by simp) (by rfl);obtain⟨kd,R,N,Q,M,tk,e2,a1,a2,a3,a4,a5,a6⟩:=hd ⟨2,.data⟩ (by simp) (by rfl);rw[show x 0=.agg f.toArray from d0,e2]at t |-;obtain⟨⟨d,D,zC,zE⟩,m⟩:=z;have yP:=m.size;go_simp;refine(We f kd N M tk R Q X (fun g hg=>by omega) (C.o X m).2.1 a1 a2 a3 a4 a5 a6).mono ?_;rintro e X' ⟨A,rfl,hv,hb⟩
       exact t.out _ X' ⟨A,rfl,hv⟩ (Al _ hb) ⟨⟨d,D.below hb,by omega,by omega⟩,Ar m (Al _ hb)⟩
     .intro x X z F K t;simp only[Ce,Act.put,Zq,Zp,Zo];obtain⟨A,e3,hv⟩:=F 3 (by decide);obtain⟨⟨d,D,zC,zE⟩,m⟩:=z;have s:Hid _:=Gu.put (p:=p) (k:=6+1200 *(25 -(Z:Int))) ⟨d,D,by omega,by omega⟩ (C.o X m).2.2.2 (C.o X m).2.2.1 (C.o X m).1 r.o.2 hv E L;rw[e3];clear F hv D zC zE m C r
      refine wp_store_mid 51 _ _ rfl q 0 A.toArray rfl rfl s.o.2.1 (by rw[List.size_toArray,s.o.1.1];kernel_rfl) (all_oneCell_toArray s.o.1.2) ?_;refine t.out _ _ ?_;clear t K;go_wp2;exact⟨⟨Z,A,by go_num,by omega,s.o.2.2,s.o.1.1⟩,by simp[intOf]⟩
    .obtain rfl:k=0:=by omega
     have T:Hid _:=r.o.1.fin r.o.2 L;have yA:Hid (∀u∈f,u.oneCell'=true):=r.o.1.rv.zero.len.2;go_wp2_with (first
      |refine wpList_load_mid rfl 51 _ rfl q 0 rfl f _ r.o.1.x.range underlying51 rfl (by rw[r.o.2];kernel_rfl) ?_
      |refine wpList_store_mid rfl 51 _ _ rfl w.heap.size 0 f.toArray rfl rfl T.o.1 (by rw[List.size_toArray,r.o.2];kernel_rfl) (all_oneCell_toArray yA.o) ?_)
     exact bodyPost_ret (AU results12 _ _ w.heap.size f _ rfl (Aa.range T.o.2.1) underlying51 rfl (by rw[r.o.2];kernel_rfl)) rfl ⟨f,rfl,T.o.2.2.1,⟨T.o.2.2.2.1.imp (fun d h=>⟨h.1,h.2.1,by have:=h.2.2;simp at this;omega⟩),T.o.2.2.2.2⟩⟩
structure Fk (w:Zh) (b:Nat) (a:Zk) (n c:Nat) (k:Int) (q:Nat) (wd:Int) (g cap N m:Nat) (xs:Zl) (X:Zh):Prop where
 rd:∃p,AT X b a n c p/\0<=p/\p<=40000+k
 row:Aj X (q+1) (.slice (some ⟨g,0,none⟩) N cap) xs
 sz:xs.length=N/\N<=4000/\∀s∈xs,s.size<=m
 bx:X.cell? (Zd q 0)=some (Zg wd)
 be:Below w.heap.size w X
 lt:q<X.heap.size
theorem Fk.go{j:Zl}(h:Fk w b a n c k q i g cap N m j X)(d:X.grownBy Y (some b))(s:AT Y b a n c p)(r:0<=p)(l:p<=40000+k')(u:b<q)(o:w.heap.size<=b):Fk w b a n c k' q i g cap N m j Y:=by have v:=(h.row.Z (g:=g) rfl).1;have f:=Tn.grown (V:=[b]) d Yu;exact⟨⟨p,s,r,l⟩,h.row.K f (fun x t e=>by cases t;simp at e;omega),h.sz,(World.cell?_of_block (a:=⟨q,0,none⟩) (f.block q h.lt Yt)).trans h.bx,Ic h.be d o,Zr h.lt d.size⟩
theorem Fk.bend{f:Int}{i:Zl}(h:Fk w b a n c k q f g cap N m i X){j:Nat}(o:j<N)(t:Zi)(x:t.size<=m+4)(z:b<q)(y:w.heap.size<=b):Fk w b a n c k q f g cap N (m+4) (i.set j t) (X.setCell (Zd g j) (.string t)):=by
 have A:=(h.row.Z (g:=g) rfl).1;have d:=Bl X g j (.string t);have e:=h.row.set (j:=j) (by rw[h.sz.1];exact o) t;rw[Nat.zero_add]at e;obtain⟨p,u,r⟩:=h.rd
 refine⟨⟨p,u.K d Yt Yt,r⟩,e,⟨by rw[List.length_set];exact h.sz.1,h.sz.2.1,fun s v=> ?_⟩,(World.cell?_of_block (a:=⟨q,0,none⟩) (d.block q h.lt Yt)).trans h.bx,h.be.trans (d.below h.be.size Yt),Zr h.lt d.size⟩;rcases List.mem_or_eq_of_mem_set v with l|rfl
 .have:=h.sz.2.2 s l;omega
 .exact x
theorem Fk.more{d:Int}{f:Int}{e:Nat}{i:Zl}(h:Fk w b a n c k q f g cap N m i X)(t:k<=d)(u:m<=e):Fk w b a n c d q f g cap N e i X:=by obtain⟨p,l,j,r⟩:=h.rd;exact⟨⟨p,l,j,Yv⟩,h.row,⟨h.sz.1,h.sz.2.1,fun s o=>by have:=h.sz.2.2 s o;omega⟩,h.bx,h.be,h.lt⟩
theorem MS(a:Zk)(n c:Nat)(w:Zh)(hn:n<=maxLen)(hb:QM w a n)(hc:n<=c):
 Calls prog 4 #[.slice a n c] w fun e w'=>∃(wd:Int) (la:Zk) (lc:Nat) (xs:Zl),e=.returned (.tuple #[Zg wd,.slice la xs.length lc])/\Ad w' w'.heap.size la xs/\(xs.length<=4000/\∀s∈xs,s.size<=6000)/\Zz w w':=by
 have HO:=Yw (Rv a n c w hn hb hc);clear hb;go_enter func4,ntmps4;go_wp2_with fail;refine HO.Ah ?_;clear HO;rintro e w1 ⟨t,o,rfl,zP,yP⟩;obtain⟨b,yQ⟩:=Af w.heap.size;rw[<-yQ]at zP |-;have S:w.heap.size<=b:=Yv
 have xO:=zP.lt;clear yQ;have HR:=Yw (QC b a t o 0 w1 zP Yv Yv);clear zP;go_wp2_with fail;refine HR.Ah ?_;clear HR;rintro e J ⟨vs,rfl,hv,Ck⟩;obtain⟨p2,xC,yG,xX⟩:=Ck.st;have yI:=Ck.gr.size;have HL:Hid (vs.length=17/\∀u∈vs,u.oneCell'=true):=hv.zero.len;have zT:Below w.heap.size w J:=Ic yP Ck.gr S;obtain⟨u,zN,xF⟩:=hv
 obtain⟨W3,zV⟩:=Af ((J.alloc (.cells Xo 51)).setCells J.heap.size 0 vs);have zG:=boxed (X:=J) (cs:=vs) (z:=BA) (T:=51) (by rw[HL.o.1];rfl);have e3:W3=(J.alloc (.cells BA.toArray 51)).setCells J.heap.size 0 vs:=zV;rw[<-e3]at zG;obtain⟨c3,b3,z3⟩:=zG;obtain⟨av,yN,L,zW⟩:=xF [] W3 Yu (Tn.of b3);have yK:Hid ((J.alloc (.cells BA.toArray 51)).there J.heap.size 0 vs.toArray.size):=by show World.there _ _ _ _;rw[show vs.toArray.size=17 from by rw[List.size_toArray];exact HL.o.1];exact(Aa.new J BA 51).there
 have zJ:=xC.below b3;have yL:=Yw zV;have HA:=Yw (JQ av.X av.V av.sc av.W u.ss u.D W3 L.s L.t zW.s.2 zW.t.2 zN.fit.s zN.fit.t);have yX:=EI.1 zN.lg;have HS:Hid ((u.ss++u.D).length<=4000/\∀s∈u.ss++u.D,s.size<=5000):=⟨by rw[List.length_append];omega,yX.2⟩;rw[yN]at c3;obtain⟨y0,_⟩:=c3 0 _ rfl;obtain⟨y2,_⟩:=c3 2 _ rfl;obtain⟨y3,_⟩:=c3 3 _ rfl
 have zK:Hid (Zz w W3/\AT W3 b a t o p2):=⟨zT.trans (b3.mono zT.size),zJ⟩;have zY:J.heap.size<W3.heap.size:=Yv
 have xQ:w.heap.size<J.heap.size:=Yv
 clear zV e3 xF L zW xC Ck yP zT b3 z3 c3 yN yX zN zJ;go_upto_region 3 with(refine wpList_store_mid rfl 51 _ _ rfl J.heap.size 0 vs.toArray rfl rfl yK.o (by rw[List.size_toArray,HL.o.1];kernel_rfl) (all_oneCell_toArray HL.o.2) ?_);rw[<-yL.o];clear yL yK HL;generalize J.heap.size=q at *
 generalize u.ss++u.D=xs at *
 go_wp2_with fail;refine HA.Ah ?_;clear HA y2 y3;rintro e w4 ⟨g,cap,rfl,yZ,zC⟩;have zS:Hid (Fk w b a t o 0 q u.wd g cap xs.length 5000 xs w4):=⟨⟨p2,zK.o.2.below zC,yG,Yv⟩,(Aj.own yZ).mono Yv,⟨rfl,HS.o⟩,(zC.cell (p:=⟨q,0,none⟩) zY).trans y0,zK.o.1.trans (zC.mono zK.o.1.size),Zr zY zC.size⟩;have zF:b<q:=Yv
 have xR:=HS.o.1;generalize u.wd=wd at *
 clear HS zK y0 yZ zC zY xQ yI xO;obtain⟨p,xD,y,N⟩:=zS.o.rd;go_wp2_with fail;refine(US b a t o p xs.length w4 xD y Yv Yv).mono ?_;rintro e w5 ⟨k,rfl,hk,O,yU⟩;have zA:Hid (Fk w b a t o 1 q wd g cap xs.length 5000 xs w5):=zS.o.go yU O Yv Yv zF S;have HK:Hid (xs.length=0\/k<xs.length):=hk;clear xD O yU zS y N;go_upto_region 5 with fail
 go_cut [26] (fun v M=>∃Q:Bool,v=.bool Q/\(Q=true->k<xs.length)/\Hid (Fk w b a t o 2 q wd g cap xs.length 5000 xs M))
 case first=>
  by_cases h0:xs.length=0
  .have zX:¬(0:Int)<(xs.length:Int):=Yv
   have E:Hid (Fk w b a t o 2 q wd g cap xs.length 5000 xs w5):=zA.o.more Yv Yv;clear h0;go_wp2;go_meet;exact⟨false,rfl,(fun h=>by cases h),E⟩
  .have zX:(0:Int)<(xs.length:Int):=Yv
   have R:k<xs.length:=Yv
   obtain⟨p,O,y,N⟩:=zA.o.rd;clear h0 hk;go_wp2_with fail;refine(Bq b a t o p 4 w5 O y Yv Yv Yv).mono ?_;rintro e G ⟨r,rfl,r0,r1,P,D⟩;have I:Hid (Fk w b a t o 2 q wd g cap xs.length 5000 xs G):=zA.o.go D P Yv Yv zF S;clear O P D zA;go_wp2_with fail;go_meet;exact⟨_,rfl,fun _=>R,I⟩
 case rest=>
 revert wc;rintro G ⟨Q,rfl,zE,I⟩;have Y:Hid (Q=true->k<xs.length):=zE;clear zE zA hk
 go_upto_if 26 with fail
 go_cut [26] (fun _ M=>Hid (∃l,Fk w b a t o 9 q wd g cap xs.length 5004 l M))
 case first=>
  cases Q with
  |false=>have E:Hid (∃l,Fk w b a t o 9 q wd g cap xs.length 5004 l G):=⟨xs,I.o.more Yv Yv⟩;go_wp2;go_meet;exact E
  |true=>
   have R:=Y.o rfl;have yM:Hid (xs[k]?=some xs[k]):=Zv R;have vL:=I.o.sz.2.2 xs[k] (List.getElem_mem R);obtain⟨_,_,er,U⟩:=I.o.row.row;cases er;obtain⟨db,vA,xP,_,yS⟩:=U.at R;have c0:=yS k _ yM.o;cases xP;rw[Nat.zero_add]at c0;obtain⟨p,P,y,N⟩:=I.o.rd;clear U yS;generalize xs[k]=s at *
   go_wp2_with fail;refine(Sq b a t o p s G P y Yv Yv).mono ?_;rintro e w7 zM;obtain⟨T,rfl,hT⟩:=zM.ex;obtain⟨p7,xE,vI,xY⟩:=zM.I.st;have zU:=I.o.go (k':=9) zM.I.gr xE Yv Yv zF S;have E:Hid (∃l,Fk w b a t o 9 q wd g cap xs.length 5004 l (w7.setCell (Zd g k) (.string T))):=⟨_,zU.bend R T Yv zF S⟩
   obtain⟨c7,f7⟩:w7.cell? (Zd g k)=some (.string s)/\w7.frozen? ⟨g,k,none⟩=false:=by
    rcases zU.row with⟨e,_⟩|⟨_,_,_,e,_,_,h3,_,h5,h6⟩
    .cases e
    .cases e;have h7:=h6 k s yM.o;have h8:=(h5 k Yv).2;rw[Nat.zero_add]at h7 h8;exact⟨h7,h8⟩
   clear zM xE zU P c0 I Y;go_wp2;go_meet;exact E
 case rest=>
 clear I Y;revert wc;intro w8 hcut;obtain⟨l,yO⟩:=hcut.o;have zB:=Yw yO;clear hcut yO;go_upto_region 7 with fail;go_cut [43] (fun v M=>∃Q:Bool,v=.bool Q/\(Q=true->1<xs.length)/\Hid (Fk w b a t o 10 q wd g cap xs.length 5004 l M))
 case first=>
  by_cases h0:xs.length<=1
  .have zX:¬(1:Int)<(xs.length:Int):=Yv
   have E:Hid (Fk w b a t o 10 q wd g cap xs.length 5004 l w8):=zB.o.more Yv Yv;clear h0;go_wp2;go_meet;exact⟨false,rfl,(fun h=>by cases h),E⟩
  .have zX:(1:Int)<(xs.length:Int):=Yv
   obtain⟨p,O,y,N⟩:=zB.o.rd;have xH:1<xs.length:=Yv
   clear h0;go_wp2_with fail;refine(Bq b a t o p 6 w8 O y Yv Yv Yv).mono ?_;rintro e G ⟨r,rfl,r0,r1,P,D⟩;have d:Hid (Fk w b a t o 10 q wd g cap xs.length 5004 l G):=zB.o.go D P Yv Yv zF S;clear O P D zB;go_wp2_with fail;go_meet;exact⟨_,rfl,fun _=>xH,d⟩
 case rest=>
 revert wc;rintro f ⟨Q,rfl,zE,d⟩;have Y:Hid (Q=true->1<xs.length):=zE;clear zE zB
 go_upto_if 43 with fail
 go_cut [6,43] (fun lv _ M=>∃(la:Zk) (lc m:Nat),lv=.slice la m lc/\Hid (∃C:Zl,C.length=m/\(m<=4000/\∀s∈C,s.size<=6000)/\(Ad M M.heap.size la C/\∀A,la=some A->A.block≠b)/\Zz w M/\(∃p,AT M b a t o p/\0<=p/\p<=50000)/\M.cell? (Zd q 0)=some (Zg wd)/\q<M.heap.size))
 case first=>
  cases Q with
  |false=>
   have E:Hid (∃C:Zl,C.length=xs.length/\(xs.length<=4000/\∀s∈C,s.size<=6000)/\(Ad f f.heap.size (some ⟨g,0,none⟩) C/\∀A:Addr,some (⟨g,0,none⟩:Addr)=some A->A.block≠b)/\Zz w f/\(∃p,AT f b a t o p/\0<=p/\p<=50000)/\f.cell? (Zd q 0)=some (Zg wd)/\q<f.heap.size):=by obtain⟨p,hr,y,N⟩:=d.o.rd;obtain⟨_,_,er,yH⟩:=d.o.row.row;injection er with e1 _ _;subst e1;exact⟨l,d.o.sz.1,⟨d.o.sz.2.1,fun s F=>by have:=d.o.sz.2.2 s F;omega⟩,⟨yH,fun A e=>by cases e;have:=(d.o.row.Z (g:=g) rfl).1;show g≠b;omega⟩,d.o.be,⟨p,hr,y,Yv⟩,d.o.bx,d.o.lt⟩
   go_wp2;go_meet;exact⟨_,_,_,rfl,E⟩
  |true=>
   have xH:=Y.o rfl;have R:k<xs.length:=by have:=HK.o;omega
   obtain⟨i0,hi,xI,xJ,xK⟩:=info_parts Cq;obtain⟨p,vJ,y,N⟩:=d.o.rd;obtain⟨vG,yW,vC,vF,K⟩:q+1<=g/\g<f.heap.size/\xs.length<=cap/\cap<=maxLen/\∀i s,l[i]?=some s->f.cell? (Zd g i)=some (.string s):=by
    rcases d.o.row with⟨e,_⟩|⟨g',vN,xU,e,h1,h2,h3,h4,_,h6⟩
    .cases e
    .injection e with e1 e2 e3;injection e1 with e4;injection e4 with e5 e6 _;subst e5 e6 e3;exact⟨h1,h2,Yv,h4,fun i s F=>by have:=h6 i s F;rwa[Nat.zero_add]at this⟩
   have vM:=d.o.sz.1;have bA:Below f.heap.size f (f.alloc (.cells #[] 9)):=Zy;have oA:(f.alloc (.cells #[] 9)).drew.ownsRow f.heap.size 9 1 (Yz f.heap.size 0 0) 0 (([]:Zl).map Value.string):=World.ownsRow_lit (base:=f.heap.size) (e:=9) (size:=1) f #[] 0 (Zx) Yo rfl
   have rA:∀A,(some (⟨g,0,none⟩:Addr))=some A->∀j s,(l.take k)[j]?=some s->(f.alloc (.cells #[] 9)).drew.cell? (A.add j)=some (.string s):=fun A e j s F=>by
    cases e;rw[Go.WideShapes.add_plain,Nat.zero_add];rw[List.getElem?_take]at F;split at F
    .exact(bA.drew.cell (p:=⟨g,j,none⟩) yW).trans (K j s F)
    .cases F
   have rB:∀G:Zh,(f.alloc (.cells #[] 9)).drew.grownBy G (some f.heap.size)->∀A,(if cap=k+1 then some (⟨g,0,none⟩:Addr)else some ⟨g,k+1,none⟩)=some A->∀j s,(l.drop (k+1))[j]?=some s->G.cell? (A.add j)=some (.string s):=fun G D A e j s F=>by
    split at e
    .rw[List.drop_of_length_le Yv]at F;simp at F
    cases e;rw[Go.WideShapes.add_plain];rw[List.getElem?_drop]at F;exact(World.cell?_of_block (a:=⟨g,k+1+j,none⟩) (D.block g Yt (fun e=>by injection e with e;omega))).trans ((bA.drew.cell (p:=⟨g,k+1+j,none⟩) yW).trans (K _ s F))
   have yJ:Hid (∀(B:Zh) (g2 zH m:Nat),m=(l.take k++l.drop (k+1)).length->B.ownsRow f.heap.size 9 1 (Yz g2 m zH) m ((l.take k++l.drop (k+1)).map Value.string)->Zz f B->Hid (∃C:Zl,C.length=m/\(m<=4000/\∀s∈C,s.size<=6000)/\(Ad B B.heap.size (some ⟨g2,0,none⟩) C/\∀A:Addr,some (⟨g2,0,none⟩:Addr)=some A->A.block≠b)/\Zz w B/\(∃p,AT B b a t o p/\0<=p/\p<=50000)/\B.cell? (Zd q 0)=some (Zg wd)/\q<B.heap.size)):=fun B g2 zH m hm ho hb=>by
    subst hm;obtain⟨p,hr,y,N⟩:=d.o.rd;have xB:=d.o.lt;refine⟨_,rfl,⟨?_,fun s F=> ?_⟩,⟨Ad.own ho,fun A e=>by cases e;have:=(ho.lt g2 rfl).1;show g2≠b;omega⟩,d.o.be.trans (hb.mono d.o.be.size),⟨p,hr.below hb,y,Yv⟩,(hb.cell (p:=⟨q,0,none⟩) xB).trans d.o.bx,Zr xB hb.size⟩
    .have:=d.o.sz.2.1;rw[List.length_append,List.length_take,List.length_drop];omega
    .have:s∈l:=by
      rcases List.mem_append.1 F with h|h
      .exact List.mem_of_mem_take h
      .exact List.mem_of_mem_drop h
     have:=d.o.sz.2.2 s this;omega
   have xZ:xs.length<=4000:=xR;have vK:((k:Int)+1).toNat=k+1:=Yv
   have xW:(k:Int)+1<=(xs.length:Int):=Yv
   have xG:(l.take k).length=k:=by rw[List.length_take];omega
   have yT:(l.drop (k+1)).length=xs.length -(k+1):=by rw[List.length_drop];omega
   have vH:IntKind.i64.wrap ((k:Int)+1)=(k:Int)+1:=Cs Yv Yv;have vD:k<=cap:=Yv
   have vE:k+1<=cap:=Yv
   have xV:(0:Int)<=(k:Int)+1:=Yv
   go_upto_region 8 with fail
   go_region_law (first
    |(refine Ay (f.alloc (.cells #[] 9)).drew rfl (.tmp 44) (.tmp 47) 23 rfl f.heap.size 9 i0 Zc 16 underlying23 hi xI xJ xK rfl f.heap.size 0 0 [] rfl oA (some ⟨g,0,none⟩) k cap (l.take k) rfl xG (fun e=>by cases e) rA Yo Yv Yu ?_;intro k6 yA G zO D yC yE;simp only[Nat.zero_add,List.nil_append]at zO;have r6:=rB G D;have b6:Below f.heap.size f G:=bA.drew.grown D Yu (fun k hk=>by cases hk;omega);have z6:f.heap.size<=G.heap.size:=b6.size)
    |(refine Ay G rfl (.tmp 48) (.tmp 52) 23 rfl f.heap.size 9 i0 Zc 16 underlying23 hi xI xJ xK rfl k6 k yA (l.take k) rfl zO (if cap=k+1 then some ⟨g,0,none⟩else some ⟨g,k+1,none⟩) (xs.length -(k+1)) (cap -(k+1)) (l.drop (k+1)) rfl yT (fun e=>by split at e<;>cases e) r6 Yo Yv Yv ?_;intro k9 yB B xA yV yD yF))
   all_goals
    have l6:f.heap.size<=k6:=(zO.lt k6 rfl).1;have E:=yJ.o B k9 yB _ (by rw[List.length_append,xG,yT]) xA (b6.grown yV b6.size (fun k hk=>by cases hk;omega));clear zO D yC yE b6 r6 z6 xA yV yD yF oA rA rB yJ d K;go_wp2
    all_goals
     go_meet;exact⟨_,_,_,rfl,E⟩
 case rest=>
 revert wc;rintro B ⟨la,lc,m,rfl,hcut⟩;obtain⟨C,xS,xN,⟨xM,xL⟩,yR,⟨p,hr,y,N⟩,zG,yY⟩:=hcut.o;subst xS;have HG:Hid (∀X,B.grownBy X (some b)->Ad X X.heap.size la C/\(C.length<=4000/\∀s∈C,s.size<=6000)/\Zz w X):=fun X hX=>⟨xM.K (Tn.grown (V:=[b]) hX Yu) (fun A e _=>by have:=xL A e;simpa using this),xN,Ic yR hX S⟩
 have zR:Hid (∀X,B.grownBy X (some b)->X.cell? (Zd q 0)=some (Zg wd)):=fun X hX=>(World.cell?_of_block (a:=⟨q,0,none⟩) (hX.block q yY (fun e=>by injection e with e;omega))).trans zG;clear hcut d Y xN xM yR xL zG yY;go_wp2_with fail;refine(Bq b a t o p 12 B hr y Yv Yv Yv).mono ?_;rintro e zZ ⟨r,rfl,r0,r1,Z,H⟩;by_cases hr0:r=0
 .have e0:(r==0)=true:=by simp[hr0]
  clear hr0;go_wp2_with fail;refine(Bq b a t o (p+1) 10 zZ Z Yv Yv Yv Yv).mono ?_;rintro e xT ⟨r2,rfl,_,_,_,zI⟩;have E:=Yw (HG.o xT (Ar H zI));clear HG zR Z H zI hr;go_wp2
  go_ret2
  exact⟨_,_,_,C,rfl,E.o⟩
 .have e0:(r==0)=false:=by simp[hr0]
  have E:=Yw (HG.o zZ H);have c0:=zR.o zZ H;clear HG zR Z H hr hr0;go_wp2
  go_ret2
  exact⟨_,_,_,C,rfl,E.o⟩
end Go.Proofs.YtoglnpagihdhpaaGreatDoor
