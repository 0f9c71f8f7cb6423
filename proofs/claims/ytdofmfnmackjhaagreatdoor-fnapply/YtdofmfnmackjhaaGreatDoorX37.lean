import Derived.Test.YtdofmfnmackjhaaGreatDoorX35
import Derived.Test.YtdofmfnmackjhaaGreatDoorX30
import Derived.Test.YtdofmfnmackjhaaGreatDoorX34
import Derived.Deep.CutBlock
set_option maxRecDepth 100000
set_option maxHeartbeats 16000000
namespace Go.Proofs.YtdofmfnmackjhaaGreatDoor
open ChangeShapes WideShapes ChangeAt RowKit _root_.Go.Proofs.Tryz List World Value
variable{i p k:Int}{b c n m q size:Nat}{e f:Zl}{v:Vd}{a:Zk}{d:Zj}{u:UR}{W X Y w wr:Zh}{V:List Nat}
theorem KE:Qr v0:=⟨MB,(λk a=>by cases a),KC,rfl⟩
theorem GC.ja{b:Int}{c:Int}(h:GC i b e f c v):∀k∈v.ks,IE k:=by
 rcases h with⟨_,_,rfl⟩|⟨g,⟨_,_,rfl⟩|⟨r,a,_,rfl⟩⟩
 .exact KE.j
 .exact KE.j
 .exact Qq (a.tok (by intro k d;cases d)) (a.ok (FJ g.1.1 g.1.2)).bt.sz
theorem GC.jb{b:Int}{c:Int}(h:GC i b e f c v):Hf v.ks v.ps v.ls:=by
 rcases h with⟨_,_,rfl⟩|⟨g,⟨_,_,rfl⟩|⟨r,a,_,rfl⟩⟩
 .exact KC
 .exact KC
 .exact Ql (a.ok (FJ g.1.1 g.1.2)) (a.rx (FJ g.1.1 g.1.2) ⟨by simp[r0],by simp[r0],by simp[r0],by simp[r0],by simp[r0]⟩) (a.pn (by intro p d;cases d)) g.1.2
theorem GC.lg{e a:Int}{b d:Zl}{c:Int}(h:GC e a b d c v):Cv v.ss v.E=true:=by
 rcases h with⟨_,_,rfl⟩|⟨g,⟨_,_,rfl⟩|⟨r,f,_,rfl⟩⟩
 .rfl
 .rfl
 .exact g.2.2
theorem Fi.lg{a:Int}(h:Fi v a (some (u,n)))(i:Cv v.ss v.E=true):Cv (Bc v u).ss (Bc v u).E=true:=by
 rcases h with⟨_,h⟩|⟨r,d,_,h⟩
 .cases h
 have f:=h.kb (ME d) _ rfl;have c:=f.df;have e:=Fu.1 i;rw[Ak]at c;simp only at c;refine Fu.2 ⟨?_,λs g=> ?_⟩
 .show v.ss.length+(v.E++u.ds.map (Im v.wd)).length<=4000;rw[Ak,A9];omega
 .have b:s∈v.ss++(v.E++u.ds.map (Im v.wd)):=g;rw[<-append_assoc]at b;rcases A7.1 b with h|h
  .exact e.2 s h
  .obtain⟨x,_,rfl⟩:=mem_map.1 h;exact Qm v.wd x
theorem Hf.sub{d c:Dj}{f:Dy}{e:Dv}(h:Hf d f e)(b:c.Sublist d):Hf c f e:=
 ⟨⟨Zm b.length_le h.k.len,λk a=>h.k.sum k (b.subset a),λk a=>h.k.J k (b.subset a),λk a=>h.k.B k (b.subset a),λk a=>h.k.ref k (b.subset a)⟩,h.p,h.l,λk a=>h.b k (b.subset a),Zm b.length_le h.n.1,h.n.2⟩
theorem ClTo.sub{b:Int}{e:Dy}{d:Dv}{free:Nat}{o:Option (UR×Nat)}(h:ClTo b e d free c n u o):∀p∈o,p.1.ks.Sublist u.ks:=by
 induction h with
 |fin n u h=>intro p a;cases a;exact List.Sublist.refl _
 |old n u h hr=>intro p a;cases a
 |full n u r h hr ht hd hf=>intro p a;cases a;exact List.Sublist.refl _
 |long n u r h hr ht hl=>intro p a;cases a
 |step n u r o h hr ht hq hm hf hs ih=>exact λp a=>(ih p a).ah ht.sub
theorem Fi.ja{a:Int}(h:Fi v a (some (u,n)))(c:∀k∈v.ks,IE k):∀k∈(Bc v u).ks,IE k:=by
 rcases h with⟨_,h⟩|⟨r,d,_,h⟩
 .cases h
 exact λk b=>c k ((h.sub _ rfl).subset b)
theorem Fi.jb{a:Int}(h:Fi v a (some (u,n)))(b:Hf v.ks v.ps v.ls):Hf (Bc v u).ks (Bc v u).ps (Bc v u).ls:=by
 rcases h with⟨_,h⟩|⟨r,c,_,h⟩
 .cases h
 exact b.sub (h.sub _ rfl)
def VRv(w:Zh)(o:Ending)(w':Zh):Prop:=∃vs,o=.returned (.agg vs.toArray)/\RV w.1.size w' vs/\Zz w w'
theorem Ve(A:Zj)(w:Zh)(y:RV m w A):D8 113 #[.agg A.toArray] w (VRv w):=by
 obtain⟨v,a,⟨b,l,n,g⟩,rfl,c,d⟩:=y.D;refine(Tr v _ _ _ _ _ (BD v.ss v.E v.E.length) w rfl (λY f=>EA v a Y (c.T f) d.cap b) ?_ (λ_ Y f=>XV a.i a.Y _ _ v.ss v.E Y (c.T f).s (c.T f).t d.s.2 d.t.2 b.s b.t b.ss b.E)).aj ?_
 .intro r Y f;refine(FK v a Y ((d.cp c b r).A f)).aj ?_;rintro e B ⟨S,U,T,P,L,Q,M,j,rfl,i,_,o⟩;exact⟨S,U,T,P,L,Q,M,j,rfl,i,o⟩
 .rintro e z ⟨u,S,U,T,P,L,Q,M,j,x,rfl,p,q⟩;refine⟨_,rfl,p.rv ?_,q⟩;rcases x with⟨_,rfl⟩|⟨_,rfl⟩
  .exact KE
  .obtain⟨c,d⟩:=MC (k:=v.E.length) b.ss b.E;refine⟨⟨c,by simp[Qi],d,by simp[Qi],b.R,b.r,b.rn⟩,l,n,?_⟩;have i:=Fu.1 g;have e:BD v.ss v.E v.E.length=v.ss++v.E:=by simp[BD,g]
   refine Fu.2 ⟨?_,λs t=> ?_⟩
   .show(BD v.ss v.E v.E.length).length+0<=4000;rw[e,Ak];omega
   .have h:s∈BD v.ss v.E v.E.length++[]:=t;rw[e,append_nil]at h;exact i.2 s h
theorem WI(l j:Int)(a b:Zk)(c d:Nat)(g h:Zl)(w:Zh)(r:Af w w.1.size a g)(q:Af w w.1.size b h)(o:a=none->g.length=0/\c=0)(p:b=none->h.length=0/\d=0)(f:Aay g h):
 D8 85 #[Zg l,Zg j,.agg #[C3 a g.length c,C3 b h.length d]] w λe k=>∃c i,e=C5 (.tuple #[.agg i.toArray,Zg c])/\RV w.1.size k i/\Zz w k:=by
 refine(Oe l j a b c d g h w r q o p f.s f.t f.ss f.E).aj ?_;rintro e k ⟨c,u,S,U,T,P,L,Q,M,s,i,rfl,m,n⟩;exact⟨c,Bw u S U T P L Q M,rfl,m.rv ⟨i.fit f,i.ja,i.jb,i.lg⟩,n⟩
theorem WJ(A:Zj)(k:Int)(w:Zh)(E:RV m w A)(q:0<=k):D8 114 #[.agg A.toArray,Zg k] w (VRv w):=by
 obtain⟨v,a,⟨b,_,_,_⟩,rfl,o,f⟩:=E.D;obtain⟨j,l⟩:=MC (k:=k) b.ss b.E;refine(US v _ _ _ k (BD v.ss v.E k) Qr w rfl (λY g=>EA v a Y (o.T g) f.cap b) (λ_ Y g=> ?_) (λ_ Y u n g d=> ?_)).aj ?_
 .have i:=o.T g;rcases hta:a.Y with _|A
  .obtain⟨g,s⟩:=f.t.2 hta;have t:=Bl g;rw[g,s,t];exact Ub a.i _ v.ss k q Y i.s f.s.2 b.s b.ss
  .have p:=i.t;rw[hta]at p;exact Ua a.i A _ _ v.ss v.E k q Y i.s p f.s.2 b.s b.t b.ss b.E f.t.1
 .obtain⟨a,c,rfl,D,C⟩:=ZF d;refine(Oe v.wd v.lim a none c 0 (BD v.ss v.E k) [] Y D (.inl rfl) C (λ_=>⟨rfl,rfl⟩) j Yu l Yu).aj ?_;rintro e G ⟨c,u,S,U,T,P,L,Q,M,r,d,rfl,x,y⟩;exact⟨c,u,S,U,T,P,L,Q,M,r,⟨d.fit ⟨j,Yu,l,Yu⟩,d.ja,d.jb,d.lg⟩,rfl,x,y⟩
 .rintro e F ⟨u,S,U,T,P,L,Q,M,r,d,rfl,z,B⟩;refine⟨_,rfl,z.rv ?_,B⟩;rcases d with⟨_,rfl⟩|⟨_,h⟩
  .exact KE
  .exact h
theorem Fi.fitv{b:Int}(h:Fi v b (some (u,n)))(c:FZ v):FZ (Bc v u):=by
 rcases h with⟨_,h⟩|⟨r,e,_,h⟩
 .cases h
 have a:=h.kb (ME e) _ rfl;have g:=a.dl;have f:=a.df;have i:=Lz (λk d=>(a.ok.B k d).1);have j:=EM e.log;have l:=a.ql;have m:=a.ml;rw[Ak]at j f;simp only at g f i l m;refine⟨c.s,?_,c.ss,?_,⟨by show u.ks.length<=_;omega,λk d=>Dz (a.ok.B k d).1,c.R.p,c.R.l⟩,⟨by show u.H.length<=_;omega,by show u.ms.length<=_;omega⟩,by show Fz u.ks<=_;omega⟩
 .show(v.E++u.ds.map (Im v.wd)).length<=_;rw[Ak,A9];omega
 .intro s d;rcases A7.1 d with d|d
  .exact c.E s d
  .obtain⟨x,_,rfl⟩:=mem_map.1 d;have:=Qm v.wd x;omega
theorem Vf(A:Zj)(k:Int)(w:Zh)(z:RV m w A):D8 115 #[.agg A.toArray,Zg k] w λe d=>∃c b n D,e=C5 (.agg (Jq c b n D).toArray)/\D.oneCell'=true/\RV w.1.size d b/\Zz w d:=by
 obtain⟨v,a,⟨f,r,s,q⟩,rfl,g,i⟩:=z.D;refine(Tu v a k w g i.cap f (λh=>i.cp g f h)).aj ?_;rintro e d ⟨o,t,b,rfl,j,l⟩;rcases o with _|⟨u,n⟩
 .have p:t=z20 1:=j;subst p;exact⟨1,_,0,Zb,rfl,rfl,(AM.nil d w.1.size).rv KE,l⟩
 .obtain⟨S,U,T,P,L,Q,M,B,D,rfl,x,y,_⟩:=j;obtain⟨_,_,rfl,_⟩:=y.row;exact⟨0,_,n,_,rfl,rfl,x.rv ⟨b.fitv f,b.ja r,b.jb s,b.lg q⟩,l⟩
theorem ZM(n:Nat)(w:Zh):RV n w BU:=⟨v0,KE,fun _ a _ _=>(AM.nil a 0).ji⟩
theorem ZN{d i:Dd}{a:Zj}(j:Aa W q (dL i BU))(f:q<W.1.size)(e:Zz W X)(g:RV W.1.size X a):
 ((dL d a).length=22/\∀u∈dL d a,u.oneCell'=true)/\X.there q 0 (dL d a).toArray.size/\∃c b,Aa (X.setCells q 0 (dL d a).toArray.toList) q (dL c b)/\RV W.1.size (X.setCells q 0 (dL d a).toArray.toList) b/\Tn [q] W (X.setCells q 0 (dL d a).toArray.toList):=by
 have c:=MD (d:=d) g.len;have h:=AV q (dL d a) 0 X;have b:=Aa.same j (e.block q f);refine⟨c,?_,d,a,b.ay _ (by rw[c.1];rfl),g.K h (by simpa using f),(Tn.of e).trans h⟩;rw[show(dL d a).toArray.size=22 from by rw[List.size_toArray];exact c.1];exact b.there
theorem Jg{b:Zi}{v:D4}(h:∃g c,∃a:Zl,v=.agg #[C4 b,Yz g a.length c]/\Af X X.1.size (some ⟨g,0,none⟩) a/\a.length<=4)(i:Zz X Y):∃g c,∃a:Zl,v=.agg #[C4 b,Yz g a.length c]/\Af Y Y.1.size (some ⟨g,0,none⟩) a/\a.length<=4:=by obtain⟨g,c,a,d,e,f⟩:=h;exact⟨g,c,a,d,e.T i,f⟩
theorem Jh{v:D4}(h:∃d a,v=.agg (dL d a).toArray/\RV n X a)(e:Zz X Y):∃d a,v=.agg (dL d a).toArray/\RV n Y a:=by obtain⟨d,a,b,c⟩:=h;exact⟨d,a,b,c.A e⟩
theorem RN{p:Nat->Prop}{a:Zj}(m:Aa W q BU)(g:Tn V W X)(k:q∉V)(i:w.1.size<=q)(j:∀b∈V,w.1.size<=b)(h:q<W.1.size)(c:Zz w W)(f:a.length=17)(l:Du p (X.setCells q 0 a.toArray.toList) a):
 X.there q 0 a.toArray.size/\Aa (X.setCells q 0 a.toArray.toList) q a/\∃d,Ending.returned (.agg a.toArray)=C5 (.agg d.toArray)/\Du p (X.setCells q 0 a.toArray.toList) d/\Zz w (X.setCells q 0 a.toArray.toList):=by
 have d:=Aa.same m (g.block q h k);have e:=c.ah (g.A c.size j);refine⟨?_,d.ay a (by rw[f];rfl),a,rfl,l,e.ah ((AV q a 0 X).A e.size (D2 i))⟩;rw[show a.toArray.size=17 from by rw[A1];exact f];exact d.there
theorem OO{p:Nat->Prop}{a:Zj}(k:Aa W q BU)(l:Tn V W X)(j:q∉V)(g:w.1.size<=q)(h:∀b∈V,w.1.size<=b)(d:q<W.1.size)(c:Zz w W)(e:RV W.1.size X a)(i:∀b,p b->b<w.1.size):
 X.there q 0 a.toArray.size/\Aa (X.setCells q 0 a.toArray.toList) q a/\∃f,Ending.returned (.agg a.toArray)=C5 (.agg f.toArray)/\Du p (X.setCells q 0 a.toArray.toList) f/\Zz w (X.setCells q 0 a.toArray.toList):=
 RN k l j g h d c e.len.1 ((e.K (AV q a 0 X) (D2 d)).p (λb f=>by have:=i b f;have:=c.size;omega))
theorem Acf{p:Nat->Prop}{a:Zj}(k:Aa W q BU)(h:Tn V W X)(j:q∉V)(d:w.1.size<=q)(e:∀b∈V,w.1.size<=b)(i:q<W.1.size)(c:Zz w W)(g:Du p w a):
 X.there q 0 a.toArray.size/\Aa (X.setCells q 0 a.toArray.toList) q a/\∃f,Ending.returned (.agg a.toArray)=C5 (.agg f.toArray)/\Du p (X.setCells q 0 a.toArray.toList) f/\Zz w (X.setCells q 0 a.toArray.toList):=by
 have f:=c.ah (h.A c.size e);exact RN k h j d e i c g.zero.len.1 (g.A (f.ah ((AV q a 0 X).A f.size (D2 d))))
theorem WK{p:Nat->Prop}(A:Zj)(r O G F:Int)(M H:Zi)(w:Zh)(hm:∀b,p b->b<w.1.size)(I:Du p w A)(ht:M.size<=16)(zR:0<=O)(zW:O<8)(hn:H.size<=1)(zE:0<=G)(zU:G<40):
 D8 87 #[.agg A.toArray,.agg #[Zg r,C4 M,Zg O,C4 H,Zg G,Zg F]] w λe a=>∃j,e=C5 (.agg j.toArray)/\Du p a j/\Zz w a:=by
 have⟨L,a⟩:=Ae (((w.alloc (.cells A.toArray 100)).alloc (.cells #[Zg r,C4 M,Zg O,C4 H,Zg G,Zg F] 51)).alloc (.cells Xp 100));have⟨W4,f⟩:=D6 L Xk 162;have⟨W,q⟩:=Ae (W4.setCells L.1.size 0 (Xj 1).toArray.toList);have R:=(BI a).1;have b:=(BI a).2.1;have S:=(AE f).1;have d:=(AE f).2.1;have U:Aa W4 L.1.size EU:=(AE (l:=EU) f).2.2
 have T:Tn [L.1.size] W4 W:=by rw[q];exact AV _ _ _ _
 have J:Hid (W4.there L.1.size 0 22):=U.there;have hs:∀{B:Nat} {v:D4} {l:Zj},B<L.1.size->Aa L B (v::l)->Aa W B (v::l):=λy h=>Aa.same (Aa.A h S) (T.block _ Yv Yt);have C:=I.zero.len.1;have y:Aa W w.1.size A:=by
  have⟨c,l,hl⟩:∃c l,A=c::l:=by cases A with|nil=>simp at C|cons c l=>exact⟨c,l,rfl⟩
  have:=(BI a).2.2.1;rw[hl]at this |-;exact hs Yv this
 have HX:Hid (Aa W w.1.size A/\Aa W (w.1.size+1) [Zg r,C4 M,Zg O,C4 H,Zg G,Zg F]/\Aa W (w.1.size+1+1) BU/\Aa W L.1.size (dL (Fe 1 v0 ⟨#[]⟩ ⟨#[]⟩) BU)):=⟨y,hs Yv (BI a).2.2.2.1,hs Yv (BI (m:=BU) a).2.2.2.2,by rw[q];exact U.ay _ rfl⟩;have bW:Below w.1.size w W:=R.ah ((S.aj R.size).ah (T.A Yv Yt))
 have P:Hid (Zz w W/\L.1.size=w.1.size+3/\W.1.size=w.1.size+4):=⟨bW,b,by rw[q,Jk];omega⟩;have Q:Hid (A.length=17):=C;have HV:Hid (Du p w A):=I;have zP:Hid (∀u∈A,u.oneCell'=true):=I.zero.len.2;have N:=Yw a;have z:=Yw f;have Z:=Yw q;clear q I a f R b S d U T hs y C bW;go_enter func87,ntmps87;go_upto_region 1 with fail;rw[<-N.o]
 go_upto_region 2 with(refine wpList_store_mid rfl 162 _ _ rfl L.1.size 0 (Xi 1) rfl rfl (by rw[<-z.o];exact J.o) Yr Yr ?_);rw[<-z.o,<-Z.o];clear N z Z J;obtain⟨y0,_⟩:=HX.2.1 0 _ rfl
 go_upto_block 0 with fail
 go_cut [] (λa=>Hid (∃d j,Aa a L.1.size (dL d j)/\RV W.1.size a j/\Tn [L.1.size] W a))
 case first=>
  have b:Hid (RV 0 W A):=(HV.A P.1).zero;have⟨u,a,C,y,f,J⟩:=b.D;have HK:Hid (∀X,Zz W X->AW X X.1.size a.W u.ks/\AS X X.1.size a.L u.ls):=λX q=>⟨(f.T q).R.k,(f.T q).R.l⟩;have I:Hid (∀X,Zz W X->Aa X w.1.size A):=λX q=>Aa.same HX.1 (q.block _ (Dz P.o))
  have zA:Hid (∀X,Zz W X->X.rangeAt w.1.size 4 (C8 u.O u.D u.F u.C a.W u.ks a.X a.N u.ps a.Q a.L u.ls a.P)):=λX q=>by have h:=I X q;rw[y]at h;exact Aa.gu [Zg u.wd,Zg u.lim,C1 a.i u.ss a.sc,C1 a.Y u.E a.Z] (C8 u.O u.D u.F u.C a.W u.ks a.X a.N u.ps a.Q a.L u.ls a.P) (Xw u.M a.qa u.H.length a.qc a.y u.ms.length a.mc u.U u.V u.ro) h
  have N:Hid (∀X,Zz W X->Aa X (w.1.size+1) [Zg r,C4 M,Zg O,C4 H,Zg G,Zg F]):=λX q=>Aa.A HX.2.1 q;have zF:Hid (u.ks.length<=1048576/\u.ls.length<=1048576):=⟨C.fit.R.k,C.fit.R.l⟩
  have zB:Hid (∀(d:Dd) j X,Zz W X->RV W.1.size X j->((dL d j).length=22/\∀u∈dL d j,u.oneCell'=true)/\X.there L.1.size 0 (dL d j).toArray.size/\∃R z,Aa (X.setCells L.1.size 0 (dL d j).toArray.toList) L.1.size (dL R z)/\RV W.1.size (X.setCells L.1.size 0 (dL d j).toArray.toList) z/\Tn [L.1.size] W (X.setCells L.1.size 0 (dL d j).toArray.toList)):=λd j X q z=>ZN HX.2.2.2 (Dz P.o) q z
  have zC:=Yw HX.2.2.1;have zO:=Yw HX.2.2.2;have bW:=P.1;clear y f J C HX;by_cases k1:r=1
  case' pos=>
   have q1:(r==1)=true:=D2 k1
   clear k1;go_upto_region 4 with fail;refine Es [11,12,13,14,15,16,17,18] 8 rfl _ rfl Yr Yr Yr Yr Yr Yq Yr (λ_ X=>Zz W X) (λi X v=>match i with
    |0=>v=.agg A.toArray
    |1=>v=.agg #[Zg r,C4 M,Zg O,C4 H,Zg G,Zg F]
    |2=>v=Yx w.1.size 4
    |3=>v=.agg (C9 u.O u.D u.F u.C a.W u.ks a.X a.N u.ps a.Q a.L u.ls a.P)
    |4=>∃g c rs,v=.agg #[C4 M,C7 g rs c]/\Af X X.1.size (some ⟨g,0,none⟩) rs/\rs.length<=4
    |5=>v=Yx (w.1.size+1) 5
    |6=>v=Zg F
    |7=>∃d j,v=.agg (dL d j).toArray/\RV W.1.size X j
    |_=>True) (λX Y=>Zz X Y) ?_ Ad.drew ?_ ?_
   .intro i X Y v T J;rcases i with _|_|_|_|_|_|_|_|_<;>first
     |exact J
     |exact Jg J T
     |exact Jh J T
   .intro i o k x X hi ho hk f C K q;rcases(show i=0\/i=1\/i=2\/i=3\/i=4\/i=5\/i=6\/i=7 by omega)with rfl|rfl|rfl|rfl|rfl|rfl|rfl|rfl<;>cases ho<;>simp only[Bk,Act.put,Zq,Zp,Zo]at q |-
    .refine wp_load_mid 100 _ rfl w.1.size 0 rfl A _ (I X f).range underlying100 rfl (by rw[Q.o];kernel_rfl) ?_;exact q.out _ X rfl Ad f
    .refine wp_load_mid 51 _ rfl (w.1.size+1) 0 rfl [Zg r,C4 M,Zg O,C4 H,Zg G,Zg F] _ (N X f).range underlying51 rfl Yr ?_;exact q.out _ X rfl Ad f
    .go_simp;exact q.out _ X rfl Ad f
    .have d2:=C ⟨2,.data⟩ Yu Yp;rw[show x 2=Yx w.1.size 4from d2]at q |-;refine wp_load_mid 27 _ rfl w.1.size 4 rfl (C8 u.O u.D u.F u.C a.W u.ks a.X a.N u.ps a.Q a.L u.ls a.P) _ (zA X f) underlying27 rfl Yr ?_;exact q.out _ X rfl Ad f
    .have d1:=C ⟨1,.data⟩ Yu Yp;have d3:=C ⟨3,.data⟩ Yu Yp;rw[show x 1=.agg #[Zg r,C4 M,Zg O,C4 H,Zg G,Zg F]from d1,show x 3=.agg (C9 u.O u.D u.F u.C a.W u.ks a.X a.N u.ps a.Q a.L u.ls a.P) from d3]at q |-;go_simp
     refine(Ko r O G F M H u.O u.D u.F u.C a.W a.N a.L a.X u.ps.length a.Q u.ls.length a.P u.ks X (HK X f).1 zE Yv zR Yv zF.1).aj ?_;rintro e Z ⟨g,c,rs,rfl,hs,hl,_,y⟩;exact q.out _ Z ⟨g,c,rs,rfl,Af.own hs,hl⟩ y (f.ah (y.aj f.size))
    .go_simp;exact q.out _ X rfl Ad f
    .have d5:=C ⟨5,.data⟩ Yu Yp;rw[show x 5=Yx (w.1.size+1) 5from d5]at q |-;obtain⟨c1,_⟩:=N X f 5 _ rfl;go_simp;exact q.out _ X rfl Ad f
    .have d0:=C ⟨0,.data⟩ Yu Yp;have d4:=C ⟨4,.data⟩ Yu Yp;have d6:=C ⟨6,.data⟩ Yu Yp;obtain⟨g,c,rs,e4,hs,hl⟩:=d4;rw[show x 0=.agg A.toArray from d0,e4,show x 6=Zg F from d6]at q |-;go_simp;refine(ZK A M (some ⟨g,0,none⟩) c rs F X (b.A f) hs (λe=>by cases e) Yv Yo).aj ?_;rintro e Z ⟨d,j,rfl,z,y⟩
     exact q.out _ Z ⟨d,j,rfl,z.aj f.size⟩ y (f.ah (y.aj f.size))
   intro x X f J K q;simp only[Bk,Act.put,Zq,Zp,Zo];have⟨d,j,e1,z⟩:=J 7 Yq
  case' neg=>
   have q1:(r==1)=false:=D2 k1
   clear k1;by_cases k2:r=2
   case' pos=>
    have q2:(r==2)=true:=D2 k2
    clear k2;go_upto_region 6 with fail;refine Es [21,22,23,24,25,26,27,28] 8 rfl _ rfl Yr Yr Yr Yr Yr Yq Yr (λ_ X=>Zz W X) (λi X v=>match i with
     |0=>v=.agg A.toArray
     |1=>v=Yx (w.1.size+1) 3
     |2=>v=C4 H
     |3=>v=.agg #[Zg r,C4 M,Zg O,C4 H,Zg G,Zg F]
     |4=>v=Yx w.1.size 4
     |5=>v=.agg (C9 u.O u.D u.F u.C a.W u.ks a.X a.N u.ps a.Q a.L u.ls a.P)
     |6=>∃s,v=C4 s
     |7=>∃d j,v=.agg (dL d j).toArray/\RV W.1.size X j
     |_=>True) (λX Y=>Zz X Y) ?_ Ad.drew ?_ ?_
    .intro i X Y v T J;rcases i with _|_|_|_|_|_|_|_|_<;>first
      |exact J
      |exact Jg J T
      |exact Jh J T
    .intro i o k x X hi ho hk f C K q;rcases(show i=0\/i=1\/i=2\/i=3\/i=4\/i=5\/i=6\/i=7 by omega)with rfl|rfl|rfl|rfl|rfl|rfl|rfl|rfl<;>cases ho<;>simp only[Bk,Act.put,Zq,Zp,Zo]at q |-
     .refine wp_load_mid 100 _ rfl w.1.size 0 rfl A _ (I X f).range underlying100 rfl (by rw[Q.o];kernel_rfl) ?_;exact q.out _ X rfl Ad f
     .go_simp;exact q.out _ X rfl Ad f
     .have d1:=C ⟨1,.data⟩ Yu Yp;rw[show x 1=Yx (w.1.size+1) 3from d1]at q |-;obtain⟨c1,_⟩:=N X f 3 _ rfl;go_simp;exact q.out _ X rfl Ad f
     .refine wp_load_mid 51 _ rfl (w.1.size+1) 0 rfl [Zg r,C4 M,Zg O,C4 H,Zg G,Zg F] _ (N X f).range underlying51 rfl Yr ?_;exact q.out _ X rfl Ad f
     .go_simp;exact q.out _ X rfl Ad f
     .have d4:=C ⟨4,.data⟩ Yu Yp;rw[show x 4=Yx w.1.size 4from d4]at q |-;refine wp_load_mid 27 _ rfl w.1.size 4 rfl (C8 u.O u.D u.F u.C a.W u.ks a.X a.N u.ps a.Q a.L u.ls a.P) _ (zA X f) underlying27 rfl Yr ?_;exact q.out _ X rfl Ad f
     .have d3:=C ⟨3,.data⟩ Yu Yp;have d5:=C ⟨5,.data⟩ Yu Yp;rw[show x 3=.agg #[Zg r,C4 M,Zg O,C4 H,Zg G,Zg F]from d3,show x 5=.agg (C9 u.O u.D u.F u.C a.W u.ks a.X a.N u.ps a.Q a.L u.ls a.P) from d5]at q |-;go_simp
      refine(Jf r O G F M H u.O u.D u.F u.C a.W a.N a.L a.X u.ps.length a.Q u.ls.length a.P u.ks X (HK X f).1 zE Yv zF.1).aj ?_;rintro e Z ⟨s,rfl,_,y⟩;exact q.out _ Z ⟨s,rfl⟩ y (f.ah (y.aj f.size))
     .have d0:=C ⟨0,.data⟩ Yu Yp;have d2:=C ⟨2,.data⟩ Yu Yp;have d6:=C ⟨6,.data⟩ Yu Yp;obtain⟨s,e6⟩:=d6;rw[show x 0=.agg A.toArray from d0,show x 2=C4 H from d2,e6]at q |-;go_simp;refine(WE A H s X (b.A f) Yo).aj ?_;rintro e Z ⟨d,j,rfl,z,y⟩;exact q.out _ Z ⟨d,j,rfl,z.aj f.size⟩ y (f.ah (y.aj f.size))
    intro x X f J K q;simp only[Bk,Act.put,Zq,Zp,Zo];have⟨d,j,e1,z⟩:=J 7 Yq
   case' neg=>
    have q2:(r==2)=false:=D2 k2
    clear k2;by_cases k3:r=3
    .have q3:(r==3)=true:=D2 k3
     clear k3;obtain⟨y1,_⟩:=N W Ad 3 _ rfl;go_wp2_with (refine wpList_load_mid rfl 100 _ rfl w.1.size 0 rfl A _ (I W Ad).range underlying100 rfl (by rw[Q.o];kernel_rfl) ?_);refine(Tv A H W b Yo).aj ?_;rintro o w1 ⟨d,j,rfl,z,y⟩;have R:=Yw (zB d j w1 y z);have⟨D,hD⟩:=Ae (dL d j);rw[<-hD]at R;rw[<-hD]
     clear hD z y HK I zA N zB zC y1;go_wp2_with (refine wpList_store_mid rfl 162 _ _ rfl L.1.size 0 D.toArray rfl rfl R.2.1 (by rw[A1,R.1.1];kernel_rfl) (all_oneCell_toArray R.1.2) ?_);go_meet;exact R.2.2
    have q3:(r==3)=false:=D2 k3
    clear k3;by_cases k4:r=4
    case' pos=>
     have q4:(r==4)=true:=D2 k4
     clear k4;go_upto_region 10 with fail;refine Es [37,38,39,40,41,42,43,44] 8 rfl _ rfl Yr Yr Yr Yr Yr Yq Yr (λ_ X=>Zz W X) (λi X v=>match i with
      |0=>v=.agg A.toArray
      |1=>v=.agg #[Zg r,C4 M,Zg O,C4 H,Zg G,Zg F]
      |2=>v=Yx w.1.size 4
      |3=>v=.agg (C9 u.O u.D u.F u.C a.W u.ks a.X a.N u.ps a.Q a.L u.ls a.P)
      |4=>∃s,v=C4 s
      |5=>v=Yx (w.1.size+1) 5
      |6=>v=Zg F
      |7=>∃d j,v=.agg (dL d j).toArray/\RV W.1.size X j
      |_=>True) (λX Y=>Zz X Y) ?_ Ad.drew ?_ ?_
     .intro i X Y v T J;rcases i with _|_|_|_|_|_|_|_|_<;>first
       |exact J
       |exact Jg J T
       |exact Jh J T
     .intro i o k x X hi ho hk f C K q;rcases(show i=0\/i=1\/i=2\/i=3\/i=4\/i=5\/i=6\/i=7 by omega)with rfl|rfl|rfl|rfl|rfl|rfl|rfl|rfl<;>cases ho<;>simp only[Bk,Act.put,Zq,Zp,Zo]at q |-
      .refine wp_load_mid 100 _ rfl w.1.size 0 rfl A _ (I X f).range underlying100 rfl (by rw[Q.o];kernel_rfl) ?_;exact q.out _ X rfl Ad f
      .refine wp_load_mid 51 _ rfl (w.1.size+1) 0 rfl [Zg r,C4 M,Zg O,C4 H,Zg G,Zg F] _ (N X f).range underlying51 rfl Yr ?_;exact q.out _ X rfl Ad f
      .go_simp;exact q.out _ X rfl Ad f
      .have d2:=C ⟨2,.data⟩ Yu Yp;rw[show x 2=Yx w.1.size 4from d2]at q |-;refine wp_load_mid 27 _ rfl w.1.size 4 rfl (C8 u.O u.D u.F u.C a.W u.ks a.X a.N u.ps a.Q a.L u.ls a.P) _ (zA X f) underlying27 rfl Yr ?_;exact q.out _ X rfl Ad f
      .have d1:=C ⟨1,.data⟩ Yu Yp;have d3:=C ⟨3,.data⟩ Yu Yp;rw[show x 1=.agg #[Zg r,C4 M,Zg O,C4 H,Zg G,Zg F]from d1,show x 3=.agg (C9 u.O u.D u.F u.C a.W u.ks a.X a.N u.ps a.Q a.L u.ls a.P) from d3]at q |-;go_simp
       refine(Jf r O G F M H u.O u.D u.F u.C a.W a.N a.L a.X u.ps.length a.Q u.ls.length a.P u.ks X (HK X f).1 zE Yv zF.1).aj ?_;rintro e Z ⟨s,rfl,_,y⟩;exact q.out _ Z ⟨s,rfl⟩ y (f.ah (y.aj f.size))
      .go_simp;exact q.out _ X rfl Ad f
      .have d5:=C ⟨5,.data⟩ Yu Yp;rw[show x 5=Yx (w.1.size+1) 5from d5]at q |-;obtain⟨c1,_⟩:=N X f 5 _ rfl;go_simp;exact q.out _ X rfl Ad f
      .have d0:=C ⟨0,.data⟩ Yu Yp;have d4:=C ⟨4,.data⟩ Yu Yp;have d6:=C ⟨6,.data⟩ Yu Yp;obtain⟨s,e4⟩:=d4;rw[show x 0=.agg A.toArray from d0,e4,show x 6=Zg F from d6]at q |-;go_simp;refine(Tw A s F X (b.A f)).aj ?_;rintro e Z ⟨d,j,rfl,z,y⟩;exact q.out _ Z ⟨d,j,rfl,z.aj f.size⟩ y (f.ah (y.aj f.size))
     intro x X f J K q;simp only[Bk,Act.put,Zq,Zp,Zo];have⟨d,j,e1,z⟩:=J 7 Yq
    case' neg=>
     have q4:(r==4)=false:=D2 k4
     clear k4;by_cases k5:r=5
     case' pos=>
      have q5:(r==5)=true:=D2 k5
      clear k5;go_upto_region 12 with fail;refine Es [47,48,49,50,51,52] 6 rfl _ rfl Yr Yr Yr Yr Yr Yq Yr (λ_ X=>Zz W X) (λi X v=>match i with
       |0=>v=.agg A.toArray
       |1=>v=.agg #[Zg r,C4 M,Zg O,C4 H,Zg G,Zg F]
       |2=>v=Yx w.1.size 4
       |3=>v=.agg (C9 u.O u.D u.F u.C a.W u.ks a.X a.N u.ps a.Q a.L u.ls a.P)
       |4=>∃n,v=Zg n
       |5=>∃d j,v=.agg (dL d j).toArray/\RV W.1.size X j
       |_=>True) (λX Y=>Zz X Y) ?_ Ad.drew ?_ ?_
      .intro i X Y v T J;rcases i with _|_|_|_|_|_|_<;>first
        |exact J
        |exact Jg J T
        |exact Jh J T
      .intro i o k x X hi ho hk f C K q;rcases(show i=0\/i=1\/i=2\/i=3\/i=4\/i=5 by omega)with rfl|rfl|rfl|rfl|rfl|rfl<;>cases ho<;>simp only[Bk,Act.put,Zq,Zp,Zo]at q |-
       .refine wp_load_mid 100 _ rfl w.1.size 0 rfl A _ (I X f).range underlying100 rfl (by rw[Q.o];kernel_rfl) ?_;exact q.out _ X rfl Ad f
       .refine wp_load_mid 51 _ rfl (w.1.size+1) 0 rfl [Zg r,C4 M,Zg O,C4 H,Zg G,Zg F] _ (N X f).range underlying51 rfl Yr ?_;exact q.out _ X rfl Ad f
       .go_simp;exact q.out _ X rfl Ad f
       .have d2:=C ⟨2,.data⟩ Yu Yp;rw[show x 2=Yx w.1.size 4from d2]at q |-;refine wp_load_mid 27 _ rfl w.1.size 4 rfl (C8 u.O u.D u.F u.C a.W u.ks a.X a.N u.ps a.Q a.L u.ls a.P) _ (zA X f) underlying27 rfl Yr ?_;exact q.out _ X rfl Ad f
       .have d1:=C ⟨1,.data⟩ Yu Yp;have d3:=C ⟨3,.data⟩ Yu Yp;rw[show x 1=.agg #[Zg r,C4 M,Zg O,C4 H,Zg G,Zg F]from d1,show x 3=.agg (C9 u.O u.D u.F u.C a.W u.ks a.X a.N u.ps a.Q a.L u.ls a.P) from d3]at q |-;go_simp
        refine(Kn r O G F M H u.O u.D u.F u.C a.W a.N a.L u.ks.length a.X u.ps.length a.Q a.P u.ls X (HK X f).2 zE Yv zF.2).aj ?_;rintro e Z ⟨n,rfl,y⟩;exact q.out _ Z ⟨n,rfl⟩ y (f.ah (y.aj f.size))
       .have d0:=C ⟨0,.data⟩ Yu Yp;have d4:=C ⟨4,.data⟩ Yu Yp;obtain⟨n,e4⟩:=d4;rw[show x 0=.agg A.toArray from d0,e4]at q |-;go_simp;refine(Qs A n X (b.A f)).aj ?_;rintro e Z ⟨d,j,rfl,z,y⟩;exact q.out _ Z ⟨d,j,rfl,z.aj f.size⟩ y (f.ah (y.aj f.size))
      intro x X f J K q;simp only[Bk,Act.put,Zq,Zp,Zo];have⟨d,j,e1,z⟩:=J 5 Yq
     case' neg=>
      have q5:(r==5)=false:=D2 k5
      clear k5;by_cases k6:r=6
      .have q6:(r==6)=true:=D2 k6
       clear k6;obtain⟨y1,_⟩:=N W Ad 5 _ rfl;go_wp2_with (refine wpList_load_mid rfl 100 _ rfl w.1.size 0 rfl A _ (I W Ad).range underlying100 rfl (by rw[Q.o];kernel_rfl) ?_);refine(WG A F W b).aj ?_;rintro o w1 ⟨d,j,rfl,z,y⟩;have R:=Yw (zB d j w1 y z);have⟨D,hD⟩:=Ae (dL d j);rw[<-hD]at R;rw[<-hD];clear hD z y HK I zA N zB zC y1
       go_wp2_with (refine wpList_store_mid rfl 162 _ _ rfl L.1.size 0 D.toArray rfl rfl R.2.1 (by rw[A1,R.1.1];kernel_rfl) (all_oneCell_toArray R.1.2) ?_);go_meet;exact R.2.2
      have q6:(r==6)=false:=D2 k6
      clear k6;by_cases k8:r=8
      .have q8:(r==8)=true:=D2 k8
       clear k8;go_wp2_with (refine wpList_load_mid rfl 100 _ rfl w.1.size 0 rfl A _ (I W Ad).range underlying100 rfl (by rw[Q.o];kernel_rfl) ?_);refine(Ve A W b).aj ?_;rintro o w1 ⟨j,rfl,z,y⟩;have S:Hid (j.length=17/\∀u∈j,u.oneCell'=true):=z.len
       have U:=Yw (OO zC (Tn.of (V:=[]) y) Yu (show w.1.size<=w.1.size+1+1 by omega) Yu (Dz P.o) bW z hm);clear z y HK I zA N zB zC;go_wp2_with (refine wpList_store_mid rfl 100 _ _ rfl (w.1.size+1+1) 0 j.toArray rfl rfl U.1 (by rw[A1,S.1];kernel_rfl) (all_oneCell_toArray S.2) ?_)
       exact bodyPost_ret (AY results87 _ _ (w.1.size+1+1) j _ rfl (Aa.range U.2.1) underlying100 rfl (by rw[S.1];kernel_rfl)) rfl U.2.2
      have q8:(r==8)=false:=D2 k8
      clear k8;by_cases k9:r=9
      .have q9:(r==9)=true:=D2 k9
       clear k9;obtain⟨y1,_⟩:=N W Ad 4 _ rfl;have zV:G.tmod 6=G%6:=Int.tmod_eq_emod_of_nonneg zE;go_wp2_with (refine wpList_load_mid rfl 100 _ rfl w.1.size 0 rfl A _ (I W Ad).range underlying100 rfl (by rw[Q.o];kernel_rfl) ?_);refine(WJ A (G%6) W b Yv).aj ?_;rintro o w1 ⟨j,rfl,z,y⟩;have S:Hid (j.length=17/\∀u∈j,u.oneCell'=true):=z.len
       have U:=Yw (OO zC (Tn.of (V:=[]) y) Yu (show w.1.size<=w.1.size+1+1 by omega) Yu (Dz P.o) bW z hm);clear z y HK I zA N zB zC;go_wp2_with (refine wpList_store_mid rfl 100 _ _ rfl (w.1.size+1+1) 0 j.toArray rfl rfl U.1 (by rw[A1,S.1];kernel_rfl) (all_oneCell_toArray S.2) ?_)
       exact bodyPost_ret (AY results87 _ _ (w.1.size+1+1) j _ rfl (Aa.range U.2.1) underlying100 rfl (by rw[S.1];kernel_rfl)) rfl U.2.2
      have q9:(r==9)=false:=D2 k9
      clear k9;by_cases k10:r=10
      .have zS:(r==10)=true:=D2 k10
       clear k10;obtain⟨y1,_⟩:=N W Ad 4 _ rfl;go_wp2_with (refine wpList_load_mid rfl 100 _ rfl w.1.size 0 rfl A _ (I W Ad).range underlying100 rfl (by rw[Q.o];kernel_rfl) ?_);refine(Vf A G W b).aj ?_;rintro o w1 ⟨c,j,n,E,rfl,ho,z,y⟩;have S:Hid (j.length=17/\∀u∈j,u.oneCell'=true):=z.len
       have U:=Yw (OO zC (Tn.of (V:=[]) y) Yu (show w.1.size<=w.1.size+1+1 by omega) Yu (Dz P.o) bW z hm);obtain⟨a0,a1,a2,a3,a4,a5,a6,a7,a8,a9,zG,zH,zI,zJ,zK,zM,zN,rfl⟩:=IB z.len.1
       have zT:∀X:Zh,(Instr.field 171 (.agg (Jq c [a0,a1,a2,a3,a4,a5,a6,a7,a8,a9,zG,zH,zI,zJ,zK,zM,zN] n E).toArray) 1).run prog X=.ok (.agg #[a0,a1,a2,a3,a4,a5,a6,a7,a8,a9,zG,zH,zI,zJ,zK,zM,zN]) X:=λ_=>Yr
       clear z y HK I zA N zB zC;go_wp2_with (refine wpList_store_mid rfl 100 _ _ rfl (w.1.size+1+1) 0 [a0,a1,a2,a3,a4,a5,a6,a7,a8,a9,zG,zH,zI,zJ,zK,zM,zN].toArray rfl rfl U.1 (by rw[A1,S.1];kernel_rfl) (all_oneCell_toArray S.2) ?_)
       exact bodyPost_ret (AY results87 _ _ (w.1.size+1+1) [a0,a1,a2,a3,a4,a5,a6,a7,a8,a9,zG,zH,zI,zJ,zK,zM,zN] _ rfl (Aa.range U.2.1) underlying100 rfl (by rw[S.1];kernel_rfl)) rfl U.2.2
      have zS:(r==10)=false:=D2 k10
      clear k10;go_wp2_with fail;go_meet;exact⟨_,BU,zO,ZM _ _,Tn.of Ad⟩
  all_goals
   have R:=Yw (zB d j X f z);have⟨D,hD⟩:=Ae (dL d j);rw[<-hD]at R e1;rw[e1];clear hD z J;refine wp_store_mid 162 _ _ rfl L.1.size 0 D.toArray rfl rfl R.2.1 (by rw[A1,R.1.1];kernel_rfl) (all_oneCell_toArray R.1.2) ?_;refine q.out _ _ ?_;clear q K;go_wp2_with fail;go_meet;exact R.2.2
 case rest=>
  revert wc;intro wc hcut;have⟨d,j,R,z,J⟩:=hcut.o;clear hcut;have q:Hid (j.length=17/\∀u∈j,u.oneCell'=true):=z.len;have⟨K,_,_,_,_,N⟩:=Abz R q.1;have U:=Yw (OO HX.2.2.1 J (by simp;have:=P.o;omega) (show w.1.size<=w.1.size+1+1 by omega) (by simp;have:=P.o;omega) (Dz P.o) P.1 (z.aj (Zx)) hm)
  have y:=Yw (Acf HX.2.2.1 J (by simp;have:=P.o;omega) (show w.1.size<=w.1.size+1+1 by omega) (by simp;have:=P.o;omega) (Dz P.o) P.1 HV);have I:Hid (wc.rangeAt w.1.size 0 A):=(Aa.same HX.1 (J.block _ (Dz P.o) (by simp;have:=P.o;omega))).range;have t:Hid (wc.rangeAt L.1.size 1 j):=N;clear N R z J HX P;by_cases hc:d.c=0
  .have z:(d.c==0)=true:=D2 hc
   clear hc;go_wp2_with (first
    |refine wpList_load_mid rfl 100 _ rfl L.1.size 1 rfl j _ t underlying100 rfl (by rw[q.1];kernel_rfl) ?_
    |refine wpList_store_mid rfl 100 _ _ rfl (w.1.size+1+1) 0 j.toArray rfl rfl U.1 (by rw[A1,q.1];kernel_rfl) (all_oneCell_toArray q.2) ?_)
   exact bodyPost_ret (AY results87 _ _ (w.1.size+1+1) j _ rfl (Aa.range U.2.1) underlying100 rfl (by rw[q.1];kernel_rfl)) rfl U.2.2
  .have z:(d.c==0)=false:=D2 hc
   clear hc;go_wp2_with (first
    |refine wpList_load_mid rfl 100 _ rfl w.1.size 0 rfl A _ I underlying100 rfl (by rw[Q.o];kernel_rfl) ?_
    |refine wpList_store_mid rfl 100 _ _ rfl (w.1.size+1+1) 0 A.toArray rfl rfl y.1 (by rw[A1,Q.o];kernel_rfl) (all_oneCell_toArray zP) ?_)
   exact bodyPost_ret (AY results87 _ _ (w.1.size+1+1) A _ rfl (Aa.range y.2.1) underlying100 rfl (by rw[Q.o];kernel_rfl)) rfl y.2.2
structure Gt (w wr:Zh) (b:Nat) (a:Zk) (n c:Nat) (p k:Int) (q:Nat) (vs:Zj):Prop where
 rd:∃p',AD wr b a n c p'/\p<=p'/\p'<=p+k
 gr:w.grownBy wr (some b)
 z:Aa wr w.1.size BU
 x:Aa wr q vs
 rv:Du (fun g=>g<=w.1.size\/g=q) wr vs
 lt:w.1.size<q
theorem Du.less{p a:Nat->Prop}{b:Zj}(h:Du p w b)(f:∀g,a g->p g):Du a w b:=by obtain⟨u,e,h⟩:=h;exact⟨u,e,λV c d=>h V c (λg c=>f g (d g c))⟩
theorem Gt.dh(h:Gt w wr b a n c p k q d)(f:wr.grownBy X (some b))(j:b<w.1.size):Aa X q d/\Du (λg=>g<=w.1.size\/g=q) X d/\Aa X w.1.size BU/\w.grownBy X (some b):=by
 have m:=h.lt;refine⟨?_,h.rv.K (Tn.grown (V:=[b]) f Yu) Yt,h.z.aw f Yv,Aj h.gr f⟩;have⟨v,l,e⟩:∃v l,d=v::l:=by
  have:=h.rv.zero.len.1;cases d with
  |nil=>simp at this
  |cons v l=>exact⟨v,l,rfl⟩
 have i:=h.x;rw[e]at i |-;exact i.aw f Yv
theorem Gt.go{e:Int}{g:Zj}(h:Gt w wr b a n c p k q g)(l:∃d,AD X b a n c d/\p<=d/\d<=p+e)(j:wr.grownBy X (some b))(i:b<w.1.size):Gt w X b a n c p e q g:=
 have f:=h.dh j i
 ⟨l,f.2.2.2,f.2.2.1,f.1,f.2.1,h.lt⟩
theorem Gt.more{d:Int}{e:Zj}(h:Gt w wr b a n c p k q e)(t:k<=d):Gt w wr b a n c p d q e:=by obtain⟨⟨r,f,g,s⟩,i,j,l,m,o⟩:=h;exact⟨⟨r,f,g,Yv⟩,i,j,l,m,o⟩
theorem Gt.fin(h:Gt w wr b a n c p k q d)(m:d.length=17)(o:b<w.1.size):
 wr.there w.1.size 0 d.toArray.size/\Aa (wr.setCells w.1.size 0 d.toArray.toList) w.1.size d/\Du (λg=>g<w.1.size) (wr.setCells w.1.size 0 d.toArray.toList) d/\(∃j,AD (wr.setCells w.1.size 0 d.toArray.toList) b a n c j/\p<=j/\j<=p+k)/\w.grownBy (wr.setCells w.1.size 0 d.toArray.toList) (some b):=by
 have f:=AV w.1.size d 0 wr;have e:=h.gr;refine⟨?_,h.z.ay d (by rw[m];rfl),Du.less (h.rv.K f Yu) (λg e=> .inl Yv),?_,⟨f.os.ah e.os,f.tape.ah e.tape,f.output.ah e.output,Zm e.size f.size,λi l r=>(f.block i (Zr l e.size) Yt).ah (e.block i l r)⟩⟩
 .rw[show d.toArray.size=17 from by rw[A1];exact m];exact h.z.there
 .obtain⟨j,l,r⟩:=h.rd;exact⟨j,l.K f (D2 o) Yt,r⟩
theorem RV.new{d:Nat}{c f:Zh}{k:Zj}(h:RV m c k)(p:d<m)(a:Zz c f):Du (λg=>g<=d\/g=c.1.size) f k:=by
 obtain⟨u,o,h⟩:=h;refine⟨u,o,λV j n b=>h (V.filter (·<=d)) j (λg j=>by have:=(Bb.1 j).2;simp at this;omega) ⟨b.os.ah a.os,b.tape.ah a.tape,b.output.ah a.output,Zm a.size b.size,λi j l=>(b.block i (Zr j a.size) (λb=> ?_)).ah (a.block i j)⟩⟩;rcases n i b with e|e
 .exact l (Bb.2 ⟨b,D2 e⟩)
 .omega
theorem Gt.put{j vs:Zj}(z:∃f,AD X b a n c f/\p<=f/\f<=p+k)(e:w.grownBy X (some b))(s:Aa X w.1.size BU)(r:Aa X q j)(m:j.length=17)(o:Du (λg=>g<=w.1.size\/g=q) X vs)(y:w.1.size<q)(A:b<w.1.size):
 (vs.length=17/\∀u∈vs,u.oneCell'=true)/\X.there q 0 vs.toArray.size/\Gt w (X.setCells q 0 vs.toArray.toList) b a n c p k q vs:=by
 have h:=o.zero.len;have d:=AV q vs 0 X;refine⟨h,?_,?_,?_,?_,?_,o.K d Yu,y⟩
 .rw[show vs.toArray.size=j.length from by rw[A1,m];exact h.1];exact r.there
 .obtain⟨f,v,x⟩:=z;exact⟨f,v.K d Yt Yt,x⟩
 .exact⟨d.os.ah e.os,d.tape.ah e.tape,d.output.ah e.output,Zm e.size d.size,λi l t=>(d.block i (Zr l e.size) Yt).ah (e.block i l t)⟩
 .exact Aa.same s (d.block _ s.lt Yt)
 .exact r.ay vs (by rw[m];exact h.1)
theorem Ri(b:Nat)(a:Zk)(n c:Nat)(p:Int)(w:Zh)(h:AD w b a n c p)(hp:0<=p)(zO:p<=700000):
 D8 47 #[.pointer (some ⟨b,0,none⟩)] w λe d=>∃vs,e=C5 (.agg vs.toArray)/\Du (λg=>g<w.1.size) d vs/\GJ w d b a n c p 40000:=by
 have G:=h.lt;have⟨W,d⟩:=D6 w Xp 100;have f:=(AE d).1;have r:=(AE d).2.1;have L:Hid (Aa W w.1.size BU):=(AE (l:=BU) d).2.2;have H:Hid (AD W b a n c p/\w.grownBy W (some b)):=⟨h.A f,Ag _ f⟩;have Z:Hid (W.1.size=w.1.size+1):=r;have m:Hid _:=d;clear d f r h;go_enter func47,ntmps47;go_upto_region 2 with fail;rw[<-m.o];clear m;go_wp2_with fail
 refine(AK b a n c p 6 W H.1 hp (by omega) (by omega) (by omega)).aj ?_;rintro e w1 ⟨r1,rfl,zZ,yA,y,d⟩;have f:Hid _:=Za y d;clear y d
 go_upto_if 9 with fail
 go_cut [3,9] (λm _ I=>Hid (∃(l d:Int),m=Zg l/\AD I b a n c d/\p<=d/\d<=p+2/\W.grownBy I (some b)))
 case first=>
  by_cases q1:r1=0
  .have zG:(r1==0)=true:=D2 q1
   clear q1;go_wp2_with fail;refine(AK b a n c (p+1) 60 w1 f.1 (by omega) (by omega) (by omega) (by omega)).aj ?_;rintro e w2 ⟨r2,rfl,yB,yC,R,m⟩;have HM:Hid (AD w2 b a n c (p+1+1)/\W.grownBy w2 (some b)):=⟨R,Aj f.2 m⟩;clear R m f H L;go_wp2;go_meet;exact⟨_,p+1+1,rfl,HM.1,by omega,by omega,HM.2⟩
  .have zG:(r1==0)=false:=D2 q1
   clear q1;go_wp2_with fail;go_meet;exact⟨_,p+1,rfl,f.1,by omega,by omega,f.2⟩
 case rest=>
  revert wc;intro w3 hcut;obtain⟨l,p1,rfl,s,zP,zJ,r⟩:=hcut.o;clear hcut f;have m:Hid (w.grownBy w3 (some b)/\W.grownBy w3 (some b)):=⟨Aj H.2 r,r⟩;clear r;go_wp2_with fail;refine(On b a n c p1 w3 s (by omega) (by omega)).aj ?_;rintro e U ⟨wd,rfl,_,t,r⟩;have f:Hid (w.grownBy U (some b)/\W.grownBy U (some b)/\AD U b a n c (p1+1)):=⟨Aj m.1 r,Aj m.2 r,t⟩;clear s t r m;go_wp2_with fail
  refine Calls.mono (WI wd l none none 0 0 [] [] U (.inl rfl) (.inl rfl) (λ_=>⟨rfl,rfl⟩) (λ_=>⟨rfl,rfl⟩) ⟨by simp,by simp,by simp,by simp⟩) ?_;rintro e F ⟨cd,vs,rfl,C,t⟩;have E:Hid (vs.length=17/\∀u∈vs,u.oneCell'=true):=C.len;have z:=t.size;have⟨W5,r⟩:=D6 F Xp 100;have m:=(AE r).1;have N:=(AE r).2.1;have M:Aa W5 F.1.size BU:=(AE (l:=BU) r).2.2
  have D:w.1.size<F.1.size:=by have:=f.2.1.size;have:=Z.o;omega
  have s:Hid _:=Gt.put (w:=w) (X:=W5) (p:=p) (k:=4) (q:=F.1.size) (vs:=vs) ⟨p1+1,(f.2.2.A t).A m,by omega,by omega⟩ (Aj f.1 (Ag _ (t.ah (m.aj z)))) (Aa.A (Aa.A (L.aw f.2.1 (by omega)) t) m) M rfl (C.new (by have:=f.2.1.size;have:=Z.o;omega) m) D G;have⟨W6,B⟩:=Ae (W5.setCells F.1.size 0 vs.toArray.toList);rw[<-B]at s;have A:Hid _:=r;have J:Hid _:=B
  clear C t z m N M f r B H L;have f:Hid _:=Za s.2.2 E.1;go_upto_region 5 with(refine wpList_store_mid rfl 100 _ _ rfl F.1.size 0 vs.toArray rfl rfl (by rw[<-A.o];exact s.2.1) (by rw[A1,E.1];kernel_rfl) (all_oneCell_toArray E.2) ?_);rw[<-A.o,<-J.o];clear A J s E;have⟨q,m⟩:=Ae F.1.size;rw[<-m]at f D |-;clear m;have⟨p6,t,zR,zK⟩:=f.1.rd;go_wp2_with fail
  refine(AK b a n c p6 14 W6 t (by omega) (by omega) (by omega) (by omega)).aj ?_;rintro e w7 ⟨n7,rfl,zU,zV,z,m⟩;go_wp2_with fail;refine(AK b a n c (p6+1) 6 w7 z (by omega) (by omega) (by omega) (by omega)).aj ?_;rintro e w8 ⟨n8,rfl,zX,zY,A,r⟩;have B:Hid (Gt w w8 b a n c p 6 q vs/\vs.length=17):=⟨f.1.go ⟨p6+1+1,A,by omega,by omega⟩ (Aj m r) G,f.2⟩;clear t z A m r f
  go_upto_if 25 with fail
  go_cut [6,25] (λm _ I=>Hid (∃k:Nat,m=Zg k/\k<=25/\I=w8))
  case first=>
   by_cases q8:n8=0
   .have zH:(n8==0)=true:=D2 q8
    clear q8;go_wp2;go_meet;exact⟨n7.toNat+12,by go_num,by omega,rfl⟩
   .have zH:(n8==0)=false:=D2 q8
    clear q8;go_wp2_with fail;go_meet;exact⟨n7.toNat,by congr 1;omega,by omega,rfl⟩
  case rest=>
   revert wc;intro w9 hcut;obtain⟨k9,rfl,zE,rfl⟩:=hcut.o;clear hcut;go_wp2
   go_loopw [6] (λm wr=>∃(k:Nat) (f:Zj),m=Zg k/\k<=25/\Hid (Gt w wr b a n c p (6+1200 *(25 -k)) q f/\f.length=17)) (λm _=>(intOf m).toNat)
   case atStart=>exact⟨k9,vs,rfl,zE,B.1.more (by omega),B.2⟩
   case round=>
    clear B;obtain⟨k,f,rfl,hk,r⟩:=hrel;have⟨T,m,zN,zI⟩:=r.1.rd;by_cases hk0:0<k
    .obtain⟨M,rfl⟩:∃M,k=M+1:=⟨k -1,by omega⟩;have zM:decide ((0:Int)<((M+1:Nat):Int))=true:=by simp
     have zB:Hid (AD wr b a n c T):=m;have zS:q<wr.1.size:=by
      obtain⟨v,l,e⟩:∃v l,f=v::l:=by
       have:=r.2;cases f with
       |nil=>simp at this
       |cons v l=>exact⟨v,l,rfl⟩
      have hx:=r.1.x;rw[e]at hx;exact hx.lt
     have B:Hid (∀X,wr.grownBy X (some b)->Aa X q f/\Du (λg=>g<=w.1.size\/g=q) X f/\Aa X w.1.size BU/\w.grownBy X (some b)):=λX t=>by have y:=r.1.dh t G;exact⟨y.1,y.2.1,y.2.2.1,y.2.2.2⟩
     clear m;go_upto_region 10 with fail;refine Es [32,33,34,35] 4 rfl _ rfl (by kernel_rfl) (by kernel_rfl) (by kernel_rfl) (by kernel_rfl) (by kernel_rfl) (by decide) (by kernel_rfl) (λj X=>(∃d,AD X b a n c d/\T<=d/\d<=T+300 *j)/\wr.grownBy X (some b)) (λi X v=>match i with
      |0=>v=.agg f.toArray
      |1=>v=.pointer (some ⟨b,0,none⟩)
      |2=>∃N L I J H O,v=.agg #[Zg N,C4 L,Zg I,C4 J,Zg H,Zg O]/\L.size<=16/\0<=I/\I<8/\J.size<=1/\0<=H/\H<40
      |3=>∃A,v=.agg A.toArray/\Du (λg=>g<=w.1.size\/g=q) X A
      |_=>True) (λX Y=>X.grownBy Y (some b)) ?_ ⟨⟨T,zB.drew,by omega,by omega⟩,⟨rfl,rfl,rfl,Zx,λ_ _ _=>rfl⟩⟩ ?_ ?_
     .intro i X Y v zC E;rcases i with _|_|_|_|_
      .exact E
      .exact E
      .exact E
      .obtain⟨A,y,R⟩:=E;exact⟨A,y,R.K (Tn.grown (V:=[b]) zC (by simp)) (by simp;omega)⟩
      .exact E
     .intro i o j x X hi ho hj z hd K t;rcases(show i=0\/i=1\/i=2\/i=3 by omega)with rfl|rfl|rfl|rfl<;>cases ho<;>simp only[Bk,Act.put,Zq,Zp,Zo]at t |-
      .refine wp_load_mid 100 _ rfl q 0 rfl f _ (B X z.2).1.range underlying100 rfl (by rw[r.2];kernel_rfl) ?_;exact t.out _ X rfl (AO _ _) ⟨z.1.imp (λd h=>⟨h.1,h.2.1,by omega⟩),z.2⟩
      .go_simp;exact t.out _ X rfl (AO _ _) ⟨z.1.imp (λd h=>⟨h.1,h.2.1,by omega⟩),z.2⟩
      .have d1:=hd ⟨1,.data⟩ (by simp) (by rfl);rw[show x 1=.pointer (some ⟨b,0,none⟩)from d1]at t |-;obtain⟨⟨d,C,P,Q⟩,m⟩:=z;go_simp;refine(RH b a n c d X C (by omega) (by omega)).aj ?_;rintro e X' ⟨N,L,I,J,H,O,rfl,a1,a2,a3,a4,a5,a6,⟨p2,zF,h3,h4⟩,zA⟩;exact t.out _ X' ⟨N,L,I,J,H,O,rfl,a1,a2,a3,a4,a5,a6⟩ zA ⟨⟨p2,zF,by omega,by omega⟩,Aj m zA⟩
      .have d0:=hd ⟨0,.data⟩ (by simp) (by rfl);obtain⟨N,L,I,J,H,O,e2,a1,a2,a3,a4,a5,a6⟩:=hd ⟨2,.data⟩ (by simp) (by rfl);rw[show x 0=.agg f.toArray from d0,e2]at t |-;obtain⟨⟨d,C,P,Q⟩,m⟩:=z;have zT:=m.size;go_simp;refine(WK f N I H O L J X (λg S=>by omega) (B X m).2.1 a1 a2 a3 a4 a5 a6).aj ?_;rintro e X' ⟨A,rfl,S,g⟩
       exact t.out _ X' ⟨A,rfl,S⟩ (Ag _ g) ⟨⟨d,C.A g,by omega,by omega⟩,Aj m (Ag _ g)⟩
     .intro x X z E K t;simp only[Bk,Act.put,Zq,Zp,Zo];obtain⟨A,e3,S⟩:=E 3 (by decide);obtain⟨⟨d,C,P,Q⟩,m⟩:=z;have s:Hid _:=Gt.put (p:=p) (k:=6+1200 *(25 -(M:Int))) ⟨d,C,by omega,by omega⟩ (B X m).2.2.2 (B X m).2.2.1 (B X m).1 r.2 S D G;rw[e3];clear E S C P Q m B r
      refine wp_store_mid 100 _ _ rfl q 0 A.toArray rfl rfl s.2.1 (by rw[A1,s.1.1];kernel_rfl) (all_oneCell_toArray s.1.2) ?_;refine t.out _ _ ?_;clear t K;go_wp2;exact⟨⟨M,A,by go_num,by omega,s.2.2,s.1.1⟩,by simp[intOf]⟩
    .obtain rfl:k=0:=by omega
     have m:Hid _:=r.1.fin r.2 G;have t:Hid (∀u∈f,u.oneCell'=true):=r.1.rv.zero.len.2;go_wp2_with (first
      |refine wpList_load_mid rfl 100 _ rfl q 0 rfl f _ r.1.x.range underlying100 rfl (by rw[r.2];kernel_rfl) ?_
      |refine wpList_store_mid rfl 100 _ _ rfl w.1.size 0 f.toArray rfl rfl m.1 (by rw[A1,r.2];kernel_rfl) (all_oneCell_toArray t) ?_)
     exact bodyPost_ret (AY results47 _ _ w.1.size f _ rfl (Aa.range m.2.1) underlying100 rfl (by rw[r.2];kernel_rfl)) rfl ⟨f,rfl,m.2.2.1,⟨m.2.2.2.1.imp (λd h=>⟨h.1,h.2.1,by have:=h.2.2;simp at this;omega⟩),m.2.2.2.2⟩⟩
theorem GO{a:Nat}{e b:TypeId}{v:D4}{l:Zj}{f:Array Value}{g:Nat}(h:w.ownsRow a e size v n l)(k:v.ownBlock=some g)(j:w.1[g]?=some (.cells f b))(i:b≠e):False:=by have⟨c,d⟩:=Cz h k;rw[j]at d;cases d;exact i rfl
theorem Kr{a:Nat}{e:TypeId}{v:D4}{f:Zj}(h:w.ownsRow a e size v n f):v=Zb/\n=0\/∃g b,v=Yz g n b/\a<=g:=by
 rcases h.2 with c|⟨g,b,i,rfl,d,_⟩
 .exact .inl c
 .exact .inr ⟨g,b,rfl,d⟩
theorem Du.off{p:Nat->Prop}{C:Zj}(h:Du p w C):∃(u:Vd) (a:Va) (n:Zj),Qr u/\C=Bw u (.slice a.i u.ss.length a.sc) (.slice a.Y u.E.length a.Z) (.slice a.W u.ks.length a.X) (.slice a.N u.ps.length a.Q) (.slice a.L u.ls.length a.P) (.slice a.qa u.H.length a.qc) (.slice a.y u.ms.length a.mc)/\Ba w 0 (.slice a.W u.ks.length a.X) (.slice a.N u.ps.length a.Q) (.slice a.L u.ls.length a.P) n u.ks u.ps u.ls/\∀g∈BX (.slice a.W u.ks.length a.X) (.slice a.N u.ps.length a.Q) (.slice a.L u.ls.length a.P) n,¬p g:=by
 obtain⟨u,P,h⟩:=h;have⟨a,x,_,N⟩:=h [] w Yu (Tn.of Ad);have⟨n,j⟩:=N.so;refine⟨u,a,n,P,x,j,λg c f=> ?_⟩;have E:=j.dj g c;have⟨X,z⟩:∃X:Zh,X={w with heap:=w.1.setIfInBounds g (.cells #[] 27)}:=⟨_,rfl⟩;have k:X.1[g]?=some (.cells #[] 27):=by rw[z];simp[E]
 have y:Tn [g] w X:=by rw[z];exact⟨rfl,rfl,rfl,Yu,λb _ d=>by simp at d;simp[Ne.symm d]⟩
 have⟨Y,t,_,O⟩:=h [g] X (D2 f) y;have⟨l,d⟩:=O.so;rw[x]at t;simp only[Bw,List.cons.injEq]at t;obtain⟨_,_,_,_,_,_,_,_,M,L,K,_⟩:=t;rw[<-M,<-L,<-K]at d;generalize hTv:slice a.W u.ks.length a.X=T at *
 by_cases hTg:T.ownBlock=some g
 .exact GO d.ak hTg k Yq
 .unfold BX at c;simp only[A7,A8,mem_filterMap]at c;rcases c with c|c|c|⟨r,R,c⟩
  .exact hTg c
  .exact GO d.pins c k Yq
  .exact GO d.au c k Yq
  .obtain⟨i,A⟩:=A5 R;have o:=(Zw A).1;rw[j.len]at o;have v:=Zv o;have q:i<l.length:=by rw[d.len];exact o
   have s:=Zv q;have U:(u.ks.zip n)[i]?=some (u.ks[i],r):=getElem?_zip_eq_some.2 ⟨v,A⟩;have V:(u.ks.zip l)[i]?=some (u.ks[i],l[i]):=getElem?_zip_eq_some.2 ⟨v,s⟩;have G:=BN Cn U (show 3<4 by decide);have H:=BN Cn V (show 3<4 by decide);rcases Kr j.ak with⟨Q,_⟩|⟨m,W,S,_⟩
   .rw[Q]at hTv;have:u.ks.length=0:=by injection hTv
    omega
   .subst S;have D:=Ac j.ak (g:=m) rfl;have I:=j.ak.cellAt (i *4+3) Yv;have J:=d.ak.cellAt (i *4+3) Yv;have f:X.cell? (Zd m (i *4+3))=w.cell? (Zd m (i *4+3)):=cell?_of_block (a:=⟨m,i *4+3,none⟩) (y.block m D.2 (by simp;intro e;exact hTg (by rw[e];rfl)));rw[I,J,G,H]at f;have F:l[i]=r:=by injection f
    have B:=d.B i _ _ v s;rw[F]at B;exact GO B c k Yq
