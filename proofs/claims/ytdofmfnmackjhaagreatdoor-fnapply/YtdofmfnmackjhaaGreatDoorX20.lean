import Derived.Test.YtdofmfnmackjhaaGreatDoorX16
set_option maxRecDepth 100000
set_option maxHeartbeats 16000000
namespace Go.Proofs.YtdofmfnmackjhaaGreatDoor
open ChangeShapes WideShapes ChangeAt RowKit _root_.Go.Proofs.Tryz List World Value
variable{x:Pd}{a b s:Zi}{ks:Dj}{k:Nat}
section
attribute [local go_sem↓] Go.wp_at_zero Go.wp_at_succ
theorem UD{c:Dj}{y x:Zi}:x∈Cq (Fa c) y↔∃u∈c,u.sum=x/\y∈u.B:=by
 unfold Cq Fa;rw[mem_filterMap];constructor
 .rintro⟨p,a,e⟩;rw[mem_flatMap]at a;obtain⟨u,b,a⟩:=a;obtain⟨r,d,rfl⟩:=mem_map.1 a;split at e
  .rename_i h
   cases e;exact⟨u,b,rfl,h▸d⟩
  .cases e
 .rintro⟨u,b,rfl,f⟩;exact⟨(y,u.sum),mem_flatMap.2 ⟨u,b,mem_map.2 ⟨y,f,rfl⟩⟩,Yu⟩
theorem ReachE.trans{E:List (Zi×Zi)}{c:Zi}(d:ReachE E [a] b)(e:ReachE E [b] c):ReachE E [a] c:=by
 induction e with
 |here hx=>simp at hx;subst hx;exact d
 |step _ hx ih=>exact .step ih hx
abbrev ReachE.ah:=@ReachE.trans
theorem Ms{E c:List (Zi×Zi)}(d:∀x y,x∈Cq E y->y∈Cq c x)(h:ReachE E [a] b):ReachE c [b] a:=by
 induction h with
 |here hx=>simp at hx;subst hx;exact .here Yu
 |step _ hx ih=>exact ReachE.ah (.step (.here Yu) (d _ _ hx)) ih
theorem VZ{t:Zi}:ReachE (Fa ks) [s] t↔Reach ks [t] s:=by
 rw[<-VP];constructor
 .exact Ms (λx y h=>by have⟨u,c,a,b⟩:=UD.1 h;exact Mj.2 ⟨u,c,a,b⟩)
 .exact Ms (λx y h=>by have⟨u,c,a,b⟩:=Mj.1 h;exact UD.2 ⟨u,c,a,b⟩)
theorem Hl.up{f:Int}{b:Dj}{e:Dy}{d:Dv}(_:Hl f b e d){p:Zi×Zi}(a:p∈Fa b):Am b p.2:=by unfold Fa at a;have⟨u,c,a⟩:=mem_flatMap.1 a;obtain⟨r,g,rfl⟩:=mem_map.1 a;exact⟨u,c,rfl⟩
theorem Hl.upLen{d:Int}{c:Dy}{b:Dv}(h:Hl d ks c b):(Fa ks).length<=18000:=by have e:=PB (ks:=ks) (λu=>u.B.map (λr=>(r,u.sum))) (λu a=>D2 (h.fc u a));have a:=h.nk;unfold Fa;omega
theorem Jp(d l c:Nat)(j:Zl)(W:Zh)(u:Kd)(B:Zk)(C:Nat)(S:l<d)(_hc:c<d)(T:d<=W.1.size)(O:j.length<600)(M:Hi l c j W):
 D8 41 #[CW u B C,Yy c] W λe a=>(∃v,e=C5 v)/\Hi l c (j++[u.sum]) a/\DR d [l] W a:=by
 obtain⟨n,Q,f,i,R,k,z,s⟩:=M;have⟨a,b⟩:=D6 W #[C4 u.sum,Zg u.born,C4 u.J,C1 B u.B C] 68;have m:Below W.1.size W a:=by rw[b];exact Zy
 have U:a.1.size=W.1.size+1:=by rw[b];simp
 have D:a.cell? (Zd (W.1.size) 0)=some (C4 u.sum):=by rw[b];simp[go_sem]
 have r:a.cell? (Zd c 0)=some (.map (some l)):=(m.cell (p:=⟨c,0,none⟩) (A6 W _ z)).ah z;have G:c<a.1.size:=A6 a _ r;have H:=i.lt;have⟨w,I,J,K,_⟩:=k.get (keyL u.sum);have P:IntKind.i64.wrap (w+1)=w+1:=Lc Yv Yv;have y:=Yw (Zn i k);have h:=Yw b;have E:SV c l W.1.size (C4 u.sum) a.drew:=⟨r,D⟩;clear i k b;unfold CW
 go_enter func41,ntmps41;go_upto_region 1 with fail;rw[<-h.o];clear h;go_region_held3 (λb=>b.cell? (Zd c 0)=some (.map (some l))/\b.cell? (Zd (W.1.size) 0)=some (C4 u.sum))
  (first|exact E|exact b|exact k|exact h)
  (first
    |(go_at_call 39;refine(FO u.sum a.drew).aj ?_;rintro e x ⟨rfl,F⟩;have i:Below a.1.size a x:=Ad.drew.ah (F.aj (Zx));have t:Below W.1.size W x:=m.ah (i.aj m.size);have⟨st,w3,w4,he,hl1,hl3,hs4,hm4,hg3,hg4⟩:=(y.1.ag t H).jd keyed underlying84 Yo GQ (CE u.sum) (Zg (w+1));rw[I]at he hl1 hl3;unfold goInt at he hs4;have b:SV c l W.1.size (C4 u.sum) x:=⟨(i.cell (p:=⟨c,0,none⟩) G).ah r,(i.cell (p:=⟨W.1.size,0,none⟩) Yt).ah D⟩;have k:SV c l W.1.size (C4 u.sum) w3:=⟨hg3.cell b.1 (D2 s),hg3.cell b.2 Yt⟩;have h:SV c l W.1.size (C4 u.sum) w4:=⟨hg4.cell b.1 (D2 s),hg4.cell b.2 Yt⟩))
 all_goals
  have L:Hid (Hi l c (j++[u.sum]) w4/\DR d [l] W w4):=by refine⟨⟨n+1,_,_,hm4,Yt,y.2.snoc u.sum J K,h.1,s⟩,?_⟩;have g:W.grownBy w4 (some l):=(Ag _ t).ah hg4;exact⟨g.os,g.tape,g.output,g.size,λq A N=>g.block q Yv (λe=>N (by rw[A4 e];simp)),λq o A A _=>(g.block q (A2.1 A).1 (λe=>Dz (A4 e))).ah A⟩
  clear hm4 he hl1 hl3 hs4 hg3 hg4 b k h i t;go_wp2
  go_end0
  exact⟨⟨_,rfl⟩,L⟩
open Classical in
noncomputable def holdP (ks:List Kd) (ps:List Pd) (s:Zi):Zl:=(ps.filter (fun p=>decide (Reach ks [p.sum] s))).map (·.name)
open Classical in
noncomputable def holdL (ks:List Kd) (ls:List Ld) (s:Zi):List Int:=(ls.filter (fun p=>decide (Reach ks [p.sum] s))).map (·.G)
theorem UE{a:Dy}(h:a[k]?=some x)(c:Reach ks [x.sum] s):holdP ks (a.take (k+1)) s=holdP ks (a.take k) s++[x.name]:=by obtain⟨b,rfl⟩:=Zw h;unfold holdP;rw[Zu b,filter_append,map_append];simp[c]
theorem Wa{a:Dy}(h:a[k]?=some x)(c:¬Reach ks [x.sum] s):holdP ks (a.take (k+1)) s=holdP ks (a.take k) s:=by obtain⟨b,rfl⟩:=Zw h;unfold holdP;rw[Zu b,filter_append,map_append];simp[c]
theorem UF{a:Dv}{x:Ld}(h:a[k]?=some x)(c:Reach ks [x.sum] s):holdL ks (a.take (k+1)) s=holdL ks (a.take k) s++[x.G]:=by obtain⟨b,rfl⟩:=Zw h;unfold holdL;rw[Zu b,filter_append,map_append];simp[c]
theorem Wb{a:Dv}{x:Ld}(h:a[k]?=some x)(c:¬Reach ks [x.sum] s):holdL ks (a.take (k+1)) s=holdL ks (a.take k) s:=by obtain⟨b,rfl⟩:=Zw h;unfold holdL;rw[Zu b,filter_append,map_append];simp[c]
theorem UG(b:Dj)(a:Dy)(s:Zi):(holdP b a s).length<=a.length:=by unfold holdP;rw[A9];exact length_filter_le _ _
theorem UH(b:Dj)(a:Dv)(s:Zi):(holdL b a s).length<=a.length:=by unfold holdL;rw[A9];exact length_filter_le _ _
def Mt(wd now given births:Int)(ks:List Kd)(ps:List Pd)(ls:List Ld)(s:Zi):Prop:=AJ wd now given births ks ps ls/\Am ks s
open Classical in
noncomputable def holdPA (wd now given births:Int) (ks:List Kd) (ps:List Pd) (ls:List Ld) (s:Zi):Zl:=if Mt wd now given births ks ps ls s then holdP ks ps s else []
open Classical in
noncomputable def holdLA (wd now given births:Int) (ks:List Kd) (ps:List Pd) (ls:List Ld) (s:Zi):List Int:=if Mt wd now given births ks ps ls s then holdL ks ls s else []
theorem UI:∀args w,(callFunc 41 args).run prog w=.ok (.enter 41 args) w:=λ_ _=>rfl
structure Aau (w:Zh) (P:Zl) (L:List Int) (e:Ending) (w':Zh):Prop where
 ex:∃v1 v2 B2,e=.returned (.tuple #[v1,v2])/\w'.ownsRow w.1.size 9 1 v1 P.length (P.map Value.string)/\w'.ownsRow B2 3 1 v2 L.length (L.map (Value.int .i64))/\(∀g,v1.ownBlock=some g->g<B2)/\w.1.size<=B2/\Zz w w'
theorem Kb(F C f c:Int)(a p l:Zk)(M V U:Nat)(ks:Dj)(n:Dy)(r:Dv)(d:Zi)(w:Zh)(o:Bx w w.1.size a p l ks n r)(E:Iq ks)(S:IP n)(G:La r)(B:JA ks n r)(A:∀k∈ks,(Lit.int .i64 k.born).wf=true):
 D8 9 #[.agg (Yg F C f c a ks.length M p n.length V l r.length U),C4 d] w λe O=>Aau w (holdPA F C f c ks n r d) (holdLA F C f c ks n r d) e O:=by
 have⟨i0,hi,yX,yY,yZ⟩:=info_parts CC;have⟨i1,yM,yT,yU,yV⟩:=info_parts Rv;have xF:= @run_makeMap prog;have xE:∀(fn:Fn) (first cap:Array Value) (w:Zh),(Instr.makeFunc fn first cap).run prog w=.ok (.func fn first cap) w:=λ_ _ _ _=>rfl;have⟨W1,j⟩:=D6 w (C9 F C f c a ks M p n V l r U) 27;have b1:Below w.1.size w W1:=by rw[j];exact Zy
 have z1:W1.1.size=w.1.size+1:=by rw[j];simp
 have X1:Aw W1 w.1.size F C f c (C1 a ks M) (C1 p n V) (C1 l r U):=by rw[j];exact Aw.new w F C f c _ _ _ 27
 have z:=Yw j;have HR:=Yw o;have HM:=Yw (Zn E (Zn S (Zn G (Zn B A))));have D:=Yw X1;obtain⟨X,Y,Z,x3,x4,x5,x6,x7⟩:=X1;have xC:=B.k;clear j o E S G B A;go_enter func9,ntmps9;go_upto_region 1 with fail;rw[<-z.o];clear z;go_wp2_with fail;refine(FC F C f c a p l M V U ks n r W1 (Bx.T HR b1) HM.1 HM.2.1 HM.2.2.1 HM.2.2.2.1 HM.2.2.2.2).aj ?_;rintro e wA ⟨j,rfl,z,o⟩
 have XA:Aw wA w.1.size F C f c (C1 a ks M) (C1 p n V) (C1 l r U):=Aw.ag D o Yv;have BA:Below w.1.size w wA:=b1.ah (o.aj b1.size);have zA:=o.size;clear X Y Z x3 x4 x5 x6 x7;cases j with
 |false=>
  have HN:Hid (¬Mt F C f c ks n r d):=λh=>by have:=z.2 h.1;cases this
  clear z XA o D;go_wp2
  go_ret2
  refine⟨_,_,w.1.size,rfl,?_,?_,(λg Q=>by cases Q),Zx,BA⟩
  .unfold holdPA;rw[if_neg HN.o];exact ownsRow_nil _ _ _ _
  .unfold holdLA;rw[if_neg HN.o];exact ownsRow_nil _ _ _ _
 |true=>
  have j:=z.1 rfl;have HP:=Yw j;have G:=Yw (Uy j);have zK:=j.nth;have xI:=j.np;have xH:=j.nl;have h8:=G.w8;have yF:=G.upLen;have B:=Yw XA;obtain⟨X,Y,Z,x3,x4,x5,x6,x7⟩:=XA;clear z j o D;go_wp2_with fail;refine(Gf F C f c a M _ _ ks wA (AW.aj (AW.A HR.k BA) BA.size) Yv G.sum h8).aj ?_;rintro e wB ⟨mB,fB,rfl,xD,H,E,z⟩;obtain⟨J,A,j⟩:=Fm F mB _ fB ks _ _ d wB H E G.sum
  have I:=Yw (j wB Ad);have zB:=z.size;have BB:Below w.1.size w wB:=BA.ah (z.aj BA.size);have D:Hid (Aw wB w.1.size F C f c (C1 a ks M) (C1 p n V) (C1 l r U)):=Aw.ag B z Yv;clear X Y Z x3 x4 x5 x6 x7 H E j z;go_wp2_with fail;refine I.Ai ?_;rintro e j ⟨rfl,o⟩;have z2:=o.size
  have B2:Below w.1.size w j:=BB.ah (o.aj BB.size);have X2:Aw j w.1.size F C f c (C1 a ks M) (C1 p n V) (C1 l r U):=Aw.ag D o Yv;clear I o D B;cases J with
  |false=>
   have HN:Hid (¬Mt F C f c ks n r d):=λh=>by have:=A.2 h.2;cases this
   clear A X2;go_wp2
   go_ret2
   refine⟨_,_,w.1.size,rfl,?_,?_,(λg Q=>by cases Q),Zx,B2⟩
   .unfold holdPA;rw[if_neg HN.o];exact ownsRow_nil _ _ _ _
   .unfold holdLA;rw[if_neg HN.o];exact ownsRow_nil _ _ _ _
  |true=>
  have HT:Hid (Am ks d):=A.1 rfl;have yH:=G.sz HT;clear A;have⟨o,z⟩:=Ae ((j.alloc (.map #[] 0)).alloc (.cells #[.map (some j.1.size)] 84));have b3:Below j.1.size j o:=by rw[z];exact(Zy).alloc Yu _
  have z3:o.1.size=j.1.size+2:=by rw[z];simp
  have H:BR o 75 j.1.size 0 0 (λ_=>none):=by rw[z];exact(BR.new j 75).ag (Zy) Yu
  have I:o.cell? (Zd (j.1.size+1) 0)=some (.map (some j.1.size)):=by rw[z];simp[go_sem]
  have E:Hi j.1.size (j.1.size+1) [] o:=⟨0,0,_,H,Zx,MK.nil,I,Yv⟩;have D:=X2.ag b3 Yv;have P:Below w.1.size w o:=B2.ah (b3.aj B2.size);have B:=Yw z;have A:=Yw D;have zM:Hid (Hi j.1.size (j.1.size+1) [] o):=E;have bD:Below w.1.size w o.drew:=P.drew;have y:Below o.1.size o o.drew:=Ad.drew;have T:=Mk (D.ag y Yv);obtain⟨J,K,L,N,R,b,i,m⟩:=X2
  clear z H I E D;go_upto_region 4 with fail;rw[<-B.o];clear B J K L N R b i m;go_cut [32] (λv wx=>∃vs:Zl,Hid (Hi j.1.size (j.1.size+1) vs wx/\(∀s,s∈vs↔ReachE (Fa ks) [d] s)/\DR o.1.size [j.1.size] o wx))
  case first=>
   go_region_held3 (λO=>O.cell? (Zd (w.1.size) 0)=some (Zg F)/\O.cell? (Zd (w.1.size) 1)=some (Zg C)/\O.cell? (Zd (w.1.size) 2)=some (Zg f)/\O.cell? (Zd (w.1.size) 3)=some (Zg c)/\O.cell? (Zd (w.1.size) 4)=some (C1 a ks M)/\O.cell? (Zd (w.1.size) 5)=some (C1 p n V)/\O.cell? (Zd (w.1.size) 6)=some (C1 l r U))
    (first|exact T|exact yA|exact yB|exact yC|exact zR|exact zC|exact yK)
    (first
      |(go_at_call 36;refine(Gf F C f c a M _ _ ks o.drew (AW.aj (AW.A HR.k bD) bD.size) Yv G.sum h8).aj ?_;rintro e w4 ⟨m,fm,rfl,xB,x,hH,yD⟩;have k4:Below o.1.size o w4:=y.ah (yD.aj (Zx));have yA:=Mk (Aw.ag A k4 Yv))
      |(go_at_call 39;refine(GR d w4).aj ?_;rintro e z ⟨rfl,J⟩;have L:Below o.1.size o z:=k4.ah (J.aj k4.size);have yB:=Mk (Aw.ag A L Yv);have i:Below o.1.size o (z.alloc (Cx d)):=L.alloc L.size _;have yC:=Mk (Aw.ag A i Yv);have q6:Below w4.1.size w4 (z.alloc (Cx d)):=J.alloc J.size _;have xL:=L.size)
      |(go_at_call 40;refine(KN F C f c a M _ _ ks (z.alloc (Cx d)) (AW.aj (AW.A HR.k (P.ah (i.aj P.size))) (P.ah (i.aj P.size)).size) zK G.fc G.sum G.ju h8).aj ?_;rintro e w7 ⟨lb,ln,fl,rfl,yG,q,H⟩;have I:Below o.1.size o w7:=i.ah (H.aj i.size);have zR:=Mk (Aw.ag A I Yv);have q7:=q6.ah (H.aj q6.size);have zV:o.1.size<lb:=(by simp at yG;omega))
      |(go_at_call 40;refine(KN F C f c a M _ _ ks z (AW.aj (AW.A HR.k (P.ah (L.aj P.size))) (P.ah (L.aj P.size)).size) zK G.fc G.sum G.ju h8).aj ?_;rintro e w7 ⟨lb,ln,fl,rfl,yG,q,H⟩;have I:Below o.1.size o w7:=L.ah (H.aj L.size);have zR:=Mk (Aw.ag A I Yv);have q8:Below w4.1.size w4 (w7.alloc (Cx d)):=(J.ah (H.aj J.size)).alloc (J.ah (H.aj J.size)).size _;have E:Below o.1.size o (w7.alloc (Cx d)):=I.alloc I.size _;have yK:=Mk (Aw.ag A E Yv);have zZ:Lk (w7.alloc (Cx d)) (lb+1) lb ln F (Fa ks) [] fl:=q.ag (Zy);have zV:o.1.size<lb:=Yv)
      |(go_at_call 38;refine(PC 41 (Yy (j.1.size+1)) UI F m ks.length fm ks o.drew o.drew.1.size (Yz z.1.size 1 1) [d] (lb+1) lb ln (Fa ks) fl [j.1.size] (Hi j.1.size (j.1.size+1)) w7 (x.ag q7 x.lt) hH (R8.aj (R8.A (R8.one z d) (H.aj Yu)) (by have:=H.size;simp at this;omega)) q (λh=>by simp at h;have:=y.size;omega) (λh=>by simp at h;omega) (λt ht g Q h=>by simp at h;have:=((q.row t ht).g Q).1;omega) zK Yu yF h8 (λs D=>by simp at D;rw[D];exact yH) (λp S=>G.sz (G.up S)) (λs D=>by simp at D;rw[D];exact HT.o) (λp S=>G.up S) (NL zM I) (KM _ _ _ (Dz I.size) (Dz I.size)) (λvs W u ra rc h1 h2 h3 h4=>Jp _ _ _ vs W u ra rc (Dz I.size) (Dz I.size) h4 h1 h3)).aj ?_;rintro e B ⟨vs,⟨rv,rfl⟩,R,yQ,K,b⟩;have N:DR o.1.size [j.1.size] o B:=RE I b;have HF:=Yw (Zn R (Zn K N));have zC:=Mk (Aw.same A (N.old w.1.size Yv Yt)))
      |(go_at_call 38;refine(PC 41 (Yy (j.1.size+1)) UI F m ks.length fm ks o.drew o.drew.1.size (Yz w7.1.size 1 1) [d] (lb+1) lb ln (Fa ks) fl [j.1.size] (Hi j.1.size (j.1.size+1)) (w7.alloc (Cx d)) (x.ag q8 x.lt) hH (R8.aj (R8.one w7 d) Yu) zZ (λh=>by simp at h;have:=y.size;omega) (λh=>by simp at h;omega) (λt ht g Q h=>by simp at h;have:=((zZ.row t ht).g Q).1;omega) zK Yu yF h8 (λs D=>by simp at D;rw[D];exact yH) (λp S=>G.sz (G.up S)) (λs D=>by simp at D;rw[D];exact HT.o) (λp S=>G.up S) (NL zM E) (KM _ _ _ (Dz E.size) (Dz E.size)) (λvs W u ra rc h1 h2 h3 h4=>Jp _ _ _ vs W u ra rc (Dz E.size) (Dz E.size) h4 h1 h3)).aj ?_;rintro e B ⟨vs,⟨rv,rfl⟩,R,yQ,K,b⟩;have N:DR o.1.size [j.1.size] o B:=RE E b;have HF:=Yw (Zn R (Zn K N));have zC:=Mk (Aw.same A (N.old w.1.size Yv Yt))))
   all_goals
    clear x hH q yD J H k4 L i I q6 yA yB yC zR zC R K b N;go_wp2_with fail;go_meet;exact⟨vs,HF⟩
  case rest=>
  revert wc;intro z hcut;obtain⟨vs,I⟩:=hcut;clear T y bD zM;have H:=I.2.2;have z5:=H.size;have X5:Aw z w.1.size F C f c (C1 a ks M) (C1 p n V) (C1 l r U):=Aw.same A (H.old _ Yv Yt)
  have B5:Below w.1.size w z:=⟨H.os.ah P.os,H.tape.ah P.tape,H.output.ah P.output,Zm P.size H.size,λq hq=>(H.old q Yv Yt).ah (P.block q hq)⟩;have⟨mn,mc,mf,L,i,R,K,t⟩:=I.1;have J:=Yw (Zn L (Zn R K));have yE:j.1.size+1<z.1.size:=Yv
  have yO:j.1.size<z.1.size:=Yv
  have zY:Hid (∀x:Zi,Am ks x->∃N:Int,0<=N/\(0<N↔Reach ks [x] d)/\∀B:Zh,Zz z B->(Instr.lookup 84 (.map (some j.1.size)) (Ca x) false).run prog B=.ok (Zg N) B):=by
   intro x hx;have⟨N,hn,zU,xG,yP⟩:=J.2.1.get (keyL x);refine⟨N,zU,?_,λB b=> ?_⟩
   .rw[yP,<-VZ,<-I.2.1];have xJ:=G.sz hx;constructor
    .intro h;have⟨y,hy,e⟩:=mem_map.1 h;have yW:=(I.2.1 y).1 hy;have xK:=G.sz (KL (ks:=ks) (λs D=>by simp at D;rw[D];exact HT.o) (λp S=>G.up S) yW);exact key_inj e Yv Yv▸hy
    .intro h;exact mem_map.2 ⟨x,h,rfl⟩
   .have zJ:=(J.1.map.ag b yO).look keyed underlying84 (GQ B) (CE x);rw[hn]at zJ;exact zJ
  have zP:=Yw X5;have zX:=Yw K;obtain⟨X,Y,Z,x3,x4,x5,x6,x7⟩:=X5;clear H L i R K t J A I;go_wp2
  go_loopw [7,36] (λv i wr=>∃(k:Nat),k<=n.length/\i=Zg k/\Hid (wr.ownsRow z.1.size 9 1 v (holdP ks (n.take k) d).length ((holdP ks (n.take k) d).map string))/\Zz z wr) (λ_ i _=>n.length -(intOf i).toNat)
  case atStart=>exact⟨0,Az _,rfl,ownsRow_nil _ _ _ _,Ad⟩
  case round=>
   rename Zh=>w6
   clear X Y Z x3 x4 x5 x6 x7;obtain⟨k,yN,rfl,zG,D⟩:=hrel;have H:Below z.1.size z w6:=D;have B6:Below w.1.size w w6:=B5.ah (H.aj B5.size);have z6:=H.size;have yI:=D.size;by_cases hlt:k<n.length
   .obtain⟨b,xA,ha,hb,hc⟩:=(AU.A HR.p B6).at hlt;subst ha;have HG:Hid (n[k]?=some n[k]):=Zv hlt;obtain⟨c0,c1⟩:=hc k _ HG;have zO:Hid (Am ks n[k].sum):=G.cj _ (getElem_mem hlt);have yL:b<w6.1.size:=Dz B6.size
    clear hc;generalize n[k]=x at *
    have⟨N,zU,zI,J⟩:=zY x.sum zO;have zE:=Yw zI;have zN:=Yw J;have yS:=UG ks (n.take k) d;have zW:(n.take k).length<=600:=Yt
    have⟨A,L⟩:=D6 w6 #[C4 x.name,C4 x.sum] 71;have b7:Below w6.1.size w6 A:=by rw[L];exact Zy
    have n7:A.cell? (Zd (w6.1.size) 0)=some (C4 x.name):=by rw[L];simp[go_sem]
    have s7:A.cell? (Zd (w6.1.size) 1)=some (C4 x.sum):=by rw[L];simp[go_sem]
    have z7:A.1.size=w6.1.size+1:=by rw[L];simp
    have R:Below z.1.size z A:=H.ah (b7.aj H.size);have W:Below z.1.size z A:=D.ah (b7.aj D.size);have m7:A.cell? (Zd (j.1.size+1) 0)=some (.map (some j.1.size)):=(R.cell (p:=⟨j.1.size+1,0,none⟩) yE).ah zX;have zH:=Yw L;have T:A.drew.cell? (Zd (j.1.size+1) 0)=some (.map (some j.1.size))/\A.drew.cell? (Zd (w6.1.size) 1)=some (C4 x.sum):=⟨m7,s7⟩
    have O7:Hid (A.ownsRow z.1.size 9 1 u7 (holdP ks (n.take k) d).length ((holdP ks (n.take k) d).map string)):=ownsRow.kept zG (Ag none b7) (Classical.em _);have⟨X,Y,Z,x3,x4,x5,x6,x7⟩:=Aw.ag zP H Yv;clear L J zI;go_upto_region 9 with fail;rw[<-zH.o];clear zH c0 c1 X Y Z x3 x4 x5 x6 x7;go_cut [45] (λv wx=>v=.bool (decide (0<N))/\Hid (Zz A wx))
    case first=>
     go_region_held3 (λO=>O.cell? (Zd (j.1.size+1) 0)=some (.map (some j.1.size))/\O.cell? (Zd (w6.1.size) 1)=some (C4 x.sum))
      (first|exact T|exact zC)
      (first
        |(go_at_call 39;refine(FO x.sum A.drew).aj ?_;rintro e B ⟨rfl,zS⟩;have E:Below A.1.size A B:=Ad.drew.ah (zS.aj (Zx));have zJ:=zN B (R.ah (E.aj R.size));have zC:B.cell? (Zd (j.1.size+1) 0)=some (.map (some j.1.size))/\B.cell? (Zd (w6.1.size) 1)=some (C4 x.sum):=⟨(E.cell (p:=⟨j.1.size+1,0,none⟩) Yt).ah m7,(E.cell (p:=⟨w6.1.size,1,none⟩) Yt).ah s7⟩))
     all_goals
      go_wp2_with fail;go_meet;exact⟨rfl,E⟩
    case rest=>
    revert wc;intro B hcut;obtain⟨rfl,K8⟩:=hcut;have E:=K8.o;have n8:B.cell? (Zd (w6.1.size) 0)=some (C4 x.name):=(E.cell (p:=⟨w6.1.size,0,none⟩) Yt).ah n7;have O8:B.ownsRow z.1.size 9 1 u7 (holdP ks (n.take k) d).length ((holdP ks (n.take k) d).map string):=ownsRow.kept O7 (Ag none E) (Classical.em _)
    have B8:Below z.1.size z B:=W.ah (E.aj W.size);have z8:=E.size;clear T O7 K8 R W b7 s7 n7 m7;by_cases h0:0<N
    .have hd:decide (0<N)=true:=D2 h0
     have HE:=Yw (UE (ks:=ks) (s:=d) HG (zE.1 h0));have zF:=Yw O8;clear O8;go_wp2_with (first
      |(at_builtin;refine wpList_append_own _ rfl _ _ 28 rfl z.1.size 9 i0 Zc 1 16 underlying28 hi yX yY yZ rfl Yq _ (holdP ks (n.take k) d).length ((holdP ks (n.take k) d).map string) rfl ?d0 ⟨B.1.size,0,none⟩ 1 1 [C4 x.name] rfl rfl ?d1 ?d2 ?d3 ?d4 ?d5 ?_)
      |go_in)
     case d0=>exact ownsRow.alloc zF _
     case d1=>exact cell_one_new _ _ _
     case d2=>intro u hu;simp at hu;subst hu;rfl
     case d3=>unfold maxLen;omega
     case d4=>omega
     case d5=>simp;omega
     intro v' w9 K I _;have zT:Below z.1.size z w9:=(B8.alloc B8.size _).grown I Yt (λq hq=>(ownsRow.lt zF q hq).1);have t:Hid (w9.ownsRow z.1.size 9 1 v' (holdP ks (n.take (k+1)) d).length ((holdP ks (n.take (k+1)) d).map string)):=by rw[HE.o,Ak,map_append];exact K
     clear K I;go_wp2;exact⟨⟨k+1,Yv,Yn,t,zT⟩,Ys⟩
    .have hd:decide (0<N)=false:=D2 h0
     have HE:=Yw (Wa (ks:=ks) (s:=d) HG (λh=>h0 (zE.2 h)));have t:Hid (B.ownsRow z.1.size 9 1 u7 (holdP ks (n.take (k+1)) d).length ((holdP ks (n.take (k+1)) d).map string)):=by rw[HE.o];exact O8
     clear O8;go_wp2;exact⟨⟨k+1,Yv,Yn,t,B8⟩,Ys⟩
   .rw[Zt Yv]at zG;have yJ:=Yw zG;have yR:∀g,u7.ownBlock=some g->g<w6.1.size:=λg Q=>(ownsRow.lt zG g Q).2;have⟨X,Y,Z,x3,x4,x5,x6,x7⟩:=Aw.ag zP H Yv;clear zG D yI;go_wp2
    go_loopw [10,55] (λv i wr=>∃(k:Nat),k<=r.length/\i=Zg k/\Hid (wr.ownsRow w6.1.size 3 1 v (holdL ks (r.take k) d).length ((holdL ks (r.take k) d).map (int .i64)))/\Zz w6 wr) (λ_ i _=>r.length -(intOf i).toNat)
    case atStart=>exact⟨0,Az _,rfl,ownsRow_nil _ _ _ _,Ad⟩
    case round=>
     rename Zh=>wl
     clear X Y Z x3 x4 x5 x6 x7;obtain⟨k,yN,rfl,i,D⟩:=hrel;have Q:Below z.1.size z wl:=H.ah (D.aj H.size);have g:Below w.1.size w wl:=B5.ah (Q.aj B5.size);have xM:=Q.size;have yI:=D.size;by_cases hlt:k<r.length
     .obtain⟨b,xA,ha,hb,hc⟩:=(AS.A HR.l g).at hlt;subst ha;have HG:Hid (r[k]?=some r[k]):=Zv hlt;obtain⟨c0,c1,c2⟩:=hc k _ HG;have zO:Hid (Am ks r[k].sum):=G.bu _ (getElem_mem hlt);have yL:b<wl.1.size:=Dz g.size
      clear hc;generalize r[k]=x at *
      have⟨N,zU,zI,J⟩:=zY x.sum zO;have zE:=Yw zI;have zN:=Yw J;have yS:=UH ks (r.take k) d;have zW:(r.take k).length<=600:=Yt
      have⟨A,L⟩:=D6 wl #[Zg x.G,C4 x.sum,Zg x.S] 73;have b7:Below wl.1.size wl A:=by rw[L];exact Zy
      have n7:A.cell? (Zd (wl.1.size) 0)=some (Zg x.G):=by rw[L];simp[go_sem]
      have s7:A.cell? (Zd (wl.1.size) 1)=some (C4 x.sum):=by rw[L];simp[go_sem]
      have z7:A.1.size=wl.1.size+1:=by rw[L];simp
      have R:Below z.1.size z A:=Q.ah (b7.aj Q.size);have W:Below w6.1.size w6 A:=D.ah (b7.aj D.size);have m7:A.cell? (Zd (j.1.size+1) 0)=some (.map (some j.1.size)):=(R.cell (p:=⟨j.1.size+1,0,none⟩) yE).ah zX;have zH:=Yw L;have T:A.drew.cell? (Zd (j.1.size+1) 0)=some (.map (some j.1.size))/\A.drew.cell? (Zd (wl.1.size) 1)=some (C4 x.sum):=⟨m7,s7⟩
      have O7:Hid (A.ownsRow w6.1.size 3 1 u10 (holdL ks (r.take k) d).length ((holdL ks (r.take k) d).map (int .i64))):=ownsRow.kept i (Ag none b7) (Classical.em _);have⟨X,Y,Z,x3,x4,x5,x6,x7⟩:=Aw.ag zP Q Yv;clear L J zI;go_upto_region 16 with fail;rw[<-zH.o];clear zH c0 c1 c2 X Y Z x3 x4 x5 x6 x7;go_cut [64] (λv wx=>v=.bool (decide (0<N))/\Hid (Zz A wx))
      case first=>
       go_region_held3 (λO=>O.cell? (Zd (j.1.size+1) 0)=some (.map (some j.1.size))/\O.cell? (Zd (wl.1.size) 1)=some (C4 x.sum))
        (first|exact T|exact zC)
        (first
          |(go_at_call 39;refine(FO x.sum A.drew).aj ?_;rintro e B ⟨rfl,zS⟩;have E:Below A.1.size A B:=Ad.drew.ah (zS.aj (Zx));have zJ:=zN B (R.ah (E.aj R.size));have zC:B.cell? (Zd (j.1.size+1) 0)=some (.map (some j.1.size))/\B.cell? (Zd (wl.1.size) 1)=some (C4 x.sum):=⟨(E.cell (p:=⟨j.1.size+1,0,none⟩) Yt).ah m7,(E.cell (p:=⟨wl.1.size,1,none⟩) Yt).ah s7⟩))
       all_goals
        go_wp2_with fail;go_meet;exact⟨rfl,E⟩
      case rest=>
      revert wc;intro B hcut;obtain⟨rfl,K8⟩:=hcut;have E:=K8.o;have n8:B.cell? (Zd (wl.1.size) 0)=some (Zg x.G):=(E.cell (p:=⟨wl.1.size,0,none⟩) Yt).ah n7;have O8:B.ownsRow w6.1.size 3 1 u10 (holdL ks (r.take k) d).length ((holdL ks (r.take k) d).map (int .i64)):=ownsRow.kept O7 (Ag none E) (Classical.em _)
      have B8:Below w6.1.size w6 B:=W.ah (E.aj W.size);have z8:=E.size;clear T O7 K8 R W b7 s7 n7 m7;by_cases h0:0<N
      .have hd:decide (0<N)=true:=D2 h0
       have HE:=Yw (UF (ks:=ks) (s:=d) HG (zE.1 h0));have zF:=Yw O8;clear O8;go_wp2_with (first
        |(at_builtin;refine wpList_append_own _ rfl _ _ 40 rfl w6.1.size 3 i1 Ze 1 8 underlying40 yM yT yU yV rfl Yq _ (holdL ks (r.take k) d).length ((holdL ks (r.take k) d).map (int .i64)) rfl ?d0 ⟨B.1.size,0,none⟩ 1 1 [Zg x.G] rfl rfl ?d1 ?d2 ?d3 ?d4 ?d5 ?_)
        |go_in)
       case d0=>exact ownsRow.alloc zF _
       case d1=>exact cell_one_new _ _ _
       case d2=>intro u hu;simp at hu;subst hu;rfl
       case d3=>unfold maxLen;omega
       case d4=>omega
       case d5=>simp;omega
       intro v' w9 K I _;have zT:Below w6.1.size w6 w9:=(B8.alloc B8.size _).grown I Yt (λq hq=>(ownsRow.lt zF q hq).1);have t:Hid (w9.ownsRow w6.1.size 3 1 v' (holdL ks (r.take (k+1)) d).length ((holdL ks (r.take (k+1)) d).map (int .i64))):=by rw[HE.o,Ak,map_append];exact K
       clear K I;go_wp2;exact⟨⟨k+1,Yv,Yn,t,zT⟩,Ys⟩
      .have hd:decide (0<N)=false:=D2 h0
       have HE:=Yw (Wb (ks:=ks) (s:=d) HG (λh=>h0 (zE.2 h)));have t:Hid (B.ownsRow w6.1.size 3 1 u10 (holdL ks (r.take (k+1)) d).length ((holdL ks (r.take (k+1)) d).map (int .i64))):=by rw[HE.o];exact O8
       clear O8;go_wp2;exact⟨⟨k+1,Yv,Yn,t,B8⟩,Ys⟩
     .rw[Zt Yv]at i;go_wp2
      go_ret2
      refine⟨_,_,w6.1.size,rfl,?_,?_,yR,Yv,g⟩
      .unfold holdPA;rw[if_pos ⟨HP.o,HT.o⟩];exact ownsRow.aj (ownsRow.kept yJ (Ag none D) (Classical.em _)) Yv
      .unfold holdLA;rw[if_pos ⟨HP.o,HT.o⟩];exact i.o
