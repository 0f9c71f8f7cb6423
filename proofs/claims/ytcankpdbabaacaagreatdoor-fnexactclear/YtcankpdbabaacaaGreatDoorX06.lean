import Derived.Test.YtcankpdbabaacaaGreatDoorX05
set_option maxRecDepth 100000
set_option maxHeartbeats 16000000
namespace Go.Proofs.YtcankpdbabaacaaGreatDoor
open Go.ChangeShapes Go.WideShapes Go.ChangeAt Go.RowKit _root_.Go.Proofs.Tryz
variable{w w' b wr:Zh}{base j n g cap size i k q N:Nat}{U V:List Nat}{a:Zj}{ks:List Kd}{A:Type}{e:TypeId}{ls:List Ld}{x:Kd}
section
def NS(w:Zh)(b:Nat):Prop:=∀cur fz,w.heap[b]?≠some (.cells cur 9 fz)
theorem DG.move{j:List Nat}{a:Zk}{o:Zl}(h:DG w base V a o)(l:Tn U w w')(t:∀b∈U,b∈V\/(base<=b/\NS w b))(u:∀b∈j,b∈V\/w.heap.size<=b)(y:j[1]?=V[1]?:=by rfl):DG w' base j a o:=by
 rcases h with h|⟨b,g,v,k,n,c,x⟩
 .exact .inl h
 .have q:b∉U:=fun e=>by
   rcases t b e with e|⟨A,r⟩
   .exact n e
   .rcases c with c|⟨_,p,c⟩
    .omega
    .exact r p _ c
  have f:=l.block b k q;refine .inr ⟨b,g,v,Zr k l.size,fun e=> ?_,(by rw[f];unfold RK;rw[y];exact c),fun i s z=>(World.cell?_of_block (a:=⟨b,g+i,none⟩) f).trans (x i s z)⟩;rcases u b e with e|e
  .exact n e
  .omega
theorem DG.low{a:Zk}{c:Zl}(h:Ad w base a c)(i:∀b∈V,base<=b)(n:base<=w.heap.size)(l:RK base V):DG w base V a c:=by
 rcases h with h|⟨b,g,j,f,k⟩
 .exact .inl h
 .exact .inr ⟨b,g,j,Yw,fun e=>by have:=i b e;omega,.inl ⟨f,l⟩,k⟩
theorem BH.move{a:List Nat}{wd:Int}{f:Lit->Option Value}(h:BH w base V wd ks f)(o:Tn U w w')(j:∀b∈U,b∈V\/(base<=b/\NS w b))(k:∀b∈a,b∈V\/w.heap.size<=b)(l:a[1]?=V[1]?:=by rfl):BH w' base a wd ks f:=by
 intro s n;rcases h s n with h|⟨u,ra,p,c,e,g,i⟩
 .exact .inl h
 .exact .inr ⟨u,ra,p,c,e,g,i.move o j k l⟩
structure DU (w:Zh) (base d m:Nat) (O P L:Value) (wd now given births:Int) (ks:List Kd) (ps:List Pd) (ls:List Ld):Prop where
 I:Dr w base d m O P L wd now given births ks ps ls
variable {w w':Zh} {base d m:Nat} {O P L:Value} {wd now given births:Int} {ks:List Kd} {ps:List Pd} {ls:List Ld}
theorem DU.lo(h:DU w base d m O P L wd now given births ks ps ls):base<=w.heap.size:=by have:=h.I.bd;have:=h.I.box.lt;omega
theorem DU.Y(h:DU w base d m O P L wd now given births ks ps ls)(k:Tn V w w')(j:∀b∈V,base<=b/\b∉vB d m O P L/\NS w b):DU w' base d m O P L wd now given births ks ps ls:=by
 have l:=h.I.cf;have i:∀b∈vB d m O P L,w'.heap[b]?=w.heap[b]?:=fun b a=>k.block b (l b a) (fun e=>(j b e).2.1 a);obtain⟨n,f,o,p,q⟩:=h.I.map;have h:=h.I
 exact⟨⟨Aa.same h.box (i d (by simp[vB])),⟨n,f,o,AT.same p (i m (by simp[vB])),q.move k (fun b a=> .inr ⟨(j b a).1,(j b a).2.2⟩) (fun b a=> .inl a)⟩,Ak h.ord (fun g c=>i g (by simp[vB,c])),Ak h.cg (fun g c=>i g (by simp[vB,c])),Ak h.ci (fun g c=>i g (by simp[vB,c])),h.bd,h.bm,h.ap⟩⟩
theorem DU.below(h:DU w base d m O P L wd now given births ks ps ls)(a:Zz w w'):DU w' base d m O P L wd now given births ks ps ls:=
 h.Y (V:=[]) (Tn.of a) Yv
theorem YA{d m n:Nat}{O P L a:Option Nat}(h:(d::m::(O.toList++(P.toList++L.toList))).Nodup)(e:∀b∈d::m::(O.toList++(P.toList++L.toList)),b<n)(c:a=L\/∃g,a=some g/\n<=g):(d::m::(O.toList++(P.toList++a.toList))).Nodup:=by
 rcases c with rfl|⟨g,rfl,f⟩
 .exact h
 .cases O<;>cases P<;>cases L<;>simp_all<;>grind
theorem YC{d m n:Nat}{O P L a:Option Nat}(h:(d::m::(O.toList++(P.toList++L.toList))).Nodup)(e:∀b∈d::m::(O.toList++(P.toList++L.toList)),b<n)(c:a=P\/∃g,a=some g/\n<=g):(d::m::(O.toList++(a.toList++L.toList))).Nodup:=by
 rcases c with rfl|⟨g,rfl,f⟩
 .exact h
 .cases O<;>cases P<;>cases L<;>simp_all<;>grind
theorem Dq{d m:Nat}{O P L:Option Nat}(h:(d::m::(O.toList++(P.toList++L.toList))).Nodup):d≠m/\(∀g,O=some g->g≠d/\g≠m/\P≠some g/\L≠some g)/\(∀g,P=some g->g≠d/\g≠m/\L≠some g)/\(∀g,L=some g->g≠d/\g≠m):=by cases O<;>cases P<;>cases L<;>simp_all<;>grind
theorem DU.ic(h:DU w base d m O P L wd now given births ks ps ls)(p:Tn (d::L.ownBlock.toList) w w'){k:Value}{o:List Ld}{j a:Int}(q:Aa w' d [Zg wd,.map (some m),Zg j,Zg a,Zg births,O,P,k])(z:w'.ownsRow base 164 3 k o.length (Ab lC o))(c:k.ownBlock=L.ownBlock\/∃g,k.ownBlock=some g/\w.heap.size<=g):DU w' base d m O P k wd j a births ks ps o:=by
 obtain⟨u,r,s,v⟩:=Dq h.I.ap;obtain⟨n,f,A,t,B⟩:=h.I.map;have x:∀b∈d::L.ownBlock.toList,b∈vB d m O P L:=by
  intro b c;unfold vB;rcases List.mem_cons.1 c with rfl|c
  .simp
  .simp only[List.mem_cons,List.mem_append];exact .inr (.inr (.inr (.inr c)))
 have y:∀b∈vB d m O P k,b∈vB d m O P L\/w.heap.size<=b:=by
  intro b l;unfold vB at l |-;simp only[List.mem_cons,List.mem_append]at l |-;rcases l with e|e|e|e|e
  .exact .inl (.inl e)
  .exact .inl (.inr (.inl e))
  .exact .inl (.inr (.inr (.inl e)))
  .exact .inl (.inr (.inr (.inr (.inl e))))
  .rcases c with c|⟨g,i,C⟩
   .rw[c]at e;exact .inl (.inr (.inr (.inr (.inr e))))
   .rw[i]at e;simp at e;exact .inr (by omega)
 refine⟨⟨q,⟨n,f,A,AT.same t (p.block m t.lt (fun e=> ?_)),B.move p (fun b c=> .inl (x b c)) y⟩,Ak h.I.ord (fun g i=>p.block g (Ac h.I.ord i).2 (fun e=> ?_)),Ak h.I.cg (fun g i=>p.block g (Ac h.I.cg i).2 (fun e=> ?_)),z,h.I.bd,h.I.bm,YA h.I.ap h.I.cf c⟩⟩
 .rcases List.mem_cons.1 e with e|e
  .exact u e.symm
  .exact(v m (by simpa using e)).2 rfl
 .rcases List.mem_cons.1 e with e|e
  .exact(r g i).1 e
  .exact(r g i).2.2.2 (by simpa using e)
 .rcases List.mem_cons.1 e with e|e
  .exact(s g i).1 e
  .exact(s g i).2.2 (by simpa using e)
theorem DU.ie(h:DU w base d m O P L wd now given births ks ps ls)(l:Tn (d::P.ownBlock.toList) w w'){i:Value}{k:List Pd}(o:Aa w' d [Zg wd,.map (some m),Zg now,Zg given,Zg births,O,i,L])(x:w'.ownsRow base 163 2 i k.length (Ab pC k))(a:i.ownBlock=P.ownBlock\/∃g,i.ownBlock=some g/\w.heap.size<=g):DU w' base d m O i L wd now given births ks k ls:=by
 obtain⟨s,p,q,t⟩:=Dq h.I.ap;obtain⟨n,f,y,r,z⟩:=h.I.map;have u:∀b∈d::P.ownBlock.toList,b∈vB d m O P L:=by
  intro b a;unfold vB;rcases List.mem_cons.1 a with rfl|a
  .simp
  .simp only[List.mem_cons,List.mem_append];exact .inr (.inr (.inr (.inl a)))
 have v:∀b∈vB d m O i L,b∈vB d m O P L\/w.heap.size<=b:=by
  intro b j;unfold vB at j |-;simp only[List.mem_cons,List.mem_append]at j |-;rcases j with e|e|e|e|e
  .exact .inl (.inl e)
  .exact .inl (.inr (.inl e))
  .exact .inl (.inr (.inr (.inl e)))
  .rcases a with a|⟨g,c,A⟩
   .rw[a]at e;exact .inl (.inr (.inr (.inr (.inl e))))
   .rw[c]at e;simp at e;exact .inr (by omega)
  .exact .inl (.inr (.inr (.inr (.inr e))))
 refine⟨⟨o,⟨n,f,y,AT.same r (l.block m r.lt (fun e=> ?_)),z.move l (fun b a=> .inl (u b a)) v⟩,Ak h.I.ord (fun g c=>l.block g (Ac h.I.ord c).2 (fun e=> ?_)),x,Ak h.I.ci (fun g c=>l.block g (Ac h.I.ci c).2 (fun e=> ?_)),h.I.bd,h.I.bm,YC h.I.ap h.I.cf a⟩⟩
 .rcases List.mem_cons.1 e with e|e
  .exact s e.symm
  .exact(q m (by simpa using e)).2.1 rfl
 .rcases List.mem_cons.1 e with e|e
  .exact(p g c).1 e
  .exact(p g c).2.2.1 (by simpa using e)
 .rcases List.mem_cons.1 e with e|e
  .exact(t g c).1 e
  .exact(q g (by simpa using e)).2.2 c
theorem Iw(c:A->Zj)(a b:List A):Ab c (a++b)=Ab c a++Ab c b:=by unfold Ab;simp
theorem Ho{a b:Int}(f:0<=a)(c:a<=1000000000)(g:0<=b)(e:b<=1000000000):IntKind.i64.wrap (a+b)=a+b:=by simp[IntKind.wrap,IntKind.bits,IntKind.signed];omega
theorem Oi(w:Zh)(base:Nat)(v:Value)(ls:List Ld)(r:w.ownsRow base 164 3 v ls.length (Ab lC ls))(x:Ld)(q:ls.length<=1000000)(c:base<=w.heap.size)(f:TypeId):
 ∃g cap w',(Builtin.append_ #[38,38] f #[v,Za w.heap.size 1 1]).run prog (w.alloc (.cells #[Zg x.V,.string x.sum,Zg x.bg] 164))=.ok (Za g (ls.length+1) cap) w'/\w'.ownsRow base 164 3 (Za g (ls.length+1) cap) (ls++[x]).length (Ab lC (ls++[x]))/\w.grownBy w' v.ownBlock/\(v.ownBlock=some g\/g=w.heap.size+1):=by
 obtain⟨t,p,i,k,l⟩:=info_parts Gv;have h:=Ae r ((Below.refl _ _).alloc (Zx) (.cells #[Zg x.V,.string x.sum,Zg x.bg] 164));have o:∀j u,(Ab lC [x])[j]?=some u->(w.alloc (.cells #[Zg x.V,.string x.sum,Zg x.bg] 164)).cell? ((⟨w.heap.size,0,none⟩:Addr).add j)=some u:=by intro j u hu;rw[Go.WideShapes.add_plain,Nat.zero_add];exact(Aa.new w [Zg x.V,.string x.sum,Zg x.bg] 164 j u (by simpa [Ab,lC]using hu)).1
 obtain⟨y,w',s,b,n,_,a⟩:=run_append_own_at (P:=prog) (w.alloc (.cells #[Zg x.V,.string x.sum,Zg x.bg] 164)) base 38 f 164 t _ 3 32 underlying38 p i k l rfl Ys v ls.length (Ab lC ls) h ⟨w.heap.size,0,none⟩ 1 1 (Ab lC [x]) (by simp[Ab,lC]) o (by intro u hu;simp[Ab,lC]at hu;rcases hu with rfl|rfl|rfl<;>rfl) Yq Yw Yu
 obtain⟨g,cap,rfl,_,_⟩:=Cc b (fun e=>by subst e;rcases b.2 with⟨_,q⟩|⟨_,_,_,e,_⟩<;>first|omega|cases e);refine⟨g,cap,w',s,?_,(World.grownBy_alloc w _ _).trans n,?_⟩
 .rw[Iw,List.length_append];exact b
 .rcases a with a|a
  .exact .inl a.symm
  .right;simpa [Value.ownBlock]using a
theorem OL(base d m:Nat)(O P L:Value)(wd now given births:Int)(ks:List Kd)(ps:List Pd)(ls:List Ld)(s:Zi)(a:Int)(w:Zh)(h:DU w base d m O P L wd now given births ks ps ls)(J:∀k∈ks,(k.sum.size:Int)=wd)(K:Av ks s)(hl:ls.length<200)(zH:0<=given)(zI:given<1000000000)(zC:0<=now)(zE:now<=1000000000)(zF:0<=a)(zG:a<=1000000000):
 Calls prog 182 #[.pointer (some ⟨d,0,none⟩),.string s,Zg a] w fun e w'=>e=.returned (Zg (given+1))/\∃M,DU w' base d m O P M wd now (given+1) births ks ps (ls++[⟨given+1,s,now+a⟩])/\Tn (d::L.ownBlock.toList) w w':=by
 have HN:Hid _:=ED base d m O P L wd now given births ks ps ls s w h.I J K;have Q:Hid (DU w base d m O P L wd now given births ks ps ls):=h;have zK:((ls.length:Int)==200)=false:=by simp;omega
 have zJ:(given==1000000000)=false:=by simp;omega
 clear h J K;go_enter func182,ntmps182;go_wp2_with fail;refine Calls.mono HN.o ?_;rintro e q ⟨rfl,y⟩;have j:=Q.o.below y;obtain⟨l,i,Z⟩:=As j.I.ci;subst Z;obtain⟨c2,_⟩:=j.I.box 2 _ rfl;obtain⟨c3,f3⟩:=j.I.box 3 _ rfl;obtain⟨c7,_⟩:=j.I.box 7 _ rfl;obtain⟨X,A⟩:∃X,X=q.setCell (Ze d 3) (Zg (given+1)):=⟨_,rfl⟩;have r:Tn [d] q X:=by rw[A];exact AM _ _ _ _
 have o:Aa X d [Zg wd,.map (some m),Zg now,Zg (given+1),Zg births,O,P,.slice l ls.length i]:=by rw[A];exact j.I.box.set 3 _
 have x:∀g,(Value.slice l ls.length i).ownBlock=some g->g≠d:=fun g t=>((Dq j.I.ap).2.2.2 g t).1;have H:X.ownsRow base 164 3 (.slice l ls.length i) ls.length (Ab lC ls):=Ak j.I.ci (fun g t=>r.block g (Ac j.I.ci t).2 (by simp;exact x g t));have F:d<X.heap.size:=o.lt;have B:base<=X.heap.size:=Zm j.lo r.size
 obtain⟨f,c,n,p,I,z,G⟩:=Oi X.drew base _ ls (Ae H ((Below.refl _ _).drew)) ⟨given+1,s,now+a⟩ (by omega) B 38;dsimp only at p;replace p:(Builtin.append_ #[38,38] 38 #[.slice l ls.length i,.slice (some ⟨X.heap.size,0,none⟩) 1 1]).run prog (X.alloc (.cells #[Zg (given+1),.string s,Zg (now+a)] 164)).drew=.ok (.slice (some ⟨f,0,none⟩) (ls.length+1) c) n:=p
 have zM:IntKind.i64.wrap (now+a)=now+a:=Ho zC zE zF zG;have E:Below X.heap.size X (X.drew.alloc (.cells #[Zg (given+1),.string s,Zg (now+a)] 164)):=(Below.refl _ _).drew.alloc (Zx) _;have D:=o.below E;have R:Hid _:=A;have H1:Hid (DU q base d m O P (.slice l ls.length i) wd now given births ks ps ls):=j;have V:Hid (Zz w q):=y
 have v:Aa n d [Zg wd,.map (some m),Zg now,Zg (given+1),Zg births,O,P,.slice l ls.length i]:=Aa.same o (z.block d (by simpa using F) (fun e=>x d e.symm rfl))
 have u:Hid (n.ownsRow base 164 3 (.slice (some ⟨f,0,none⟩) (ls.length+1) c) (ls++[(⟨given+1,s,now+a⟩:Ld)]).length (Ab lC (ls++[(⟨given+1,s,now+a⟩:Ld)]))/\X.drew.grownBy n (Value.slice l ls.length i).ownBlock/\((Value.slice l ls.length i).ownBlock=some f\/f=X.drew.heap.size+1)):=⟨I,z,G⟩;have U:Hid (Aa n d [Zg wd,.map (some m),Zg now,Zg (given+1),Zg births,O,P,.slice l ls.length i]):=v
 have C:Hid (Tn [d] q X):=r;have Y:Hid (d<X.heap.size):=F;clear A j y HN Q r H I z G;go_upto_region 5 with fail;rw[<-R.o];clear R c2 c3 c7 f3;obtain⟨c2,c3,c7⟩:=Aa.c3 o 2 3 7;obtain⟨a2,a3,a7⟩:=Aa.c3 D 2 3 7;obtain⟨e7,f7⟩:=v 7 _ rfl;clear o D v E
 go_region_law (first
  |(refine Bv (by rfl) (.tmp 36) (.tmp 49) 38 38 (by rfl) (by rfl) (by rfl) p ?_))
 all_goals
  clear p c2 c3 c7 a2 a3 a7;have N:=U.o.set 7 (.slice (some ⟨f,0,none⟩) (ls.length+1) c);have z3:=(N 3 _ rfl).1;have z7:X.heap.size<=n.heap.size:=by have:=u.o.2.1.size;simpa using this
  have W:Hid (Aa (n.setCell (Ze d 7) (.slice (some ⟨f,0,none⟩) (ls.length+1) c)) d [Zg wd,.map (some m),Zg now,Zg (given+1),Zg births,O,P,.slice (some ⟨f,0,none⟩) (ls.length+1) c]):=N;clear N
  have S:∃M,DU (n.setCell (Ze d 7) (.slice (some ⟨f,0,none⟩) (ls.length+1) c)) base d m O P M wd now (given+1) births ks ps (ls++[(⟨given+1,s,now+a⟩:Ld)])/\Tn (d::(Value.slice l ls.length i).ownBlock.toList) w (n.setCell (Ze d 7) (.slice (some ⟨f,0,none⟩) (ls.length+1) c)):=by
   have T:Tn (d::(Value.slice l ls.length i).ownBlock.toList) q (n.setCell (Ze d 7) (.slice (some ⟨f,0,none⟩) (ls.length+1) c)):=
    ((C.o.mono (by simp)).trans ((Tn.of ((Below.refl _ _).drew)).trans ((BV u.o.2.1).mono (fun b hb=>List.mem_cons_of_mem _ hb)))).trans ((AM n d 7 _).mono (by simp))
   have zB:∀g,(Value.slice (some ⟨f,0,none⟩) (ls.length+1) c).ownBlock=some g->g≠d:=fun g t=>by
    obtain rfl:f=g:=by simpa [Value.ownBlock]using t
    rcases u.o.2.2 with e|e
    .exact x f e
    .have h1:f=X.heap.size+1:=e;have h2:=Y.o;omega
   have zA:(Value.slice (some ⟨f,0,none⟩) (ls.length+1) c).ownBlock=(Value.slice l ls.length i).ownBlock\/∃g,(Value.slice (some ⟨f,0,none⟩) (ls.length+1) c).ownBlock=some g/\q.heap.size<=g:=by
    rcases u.o.2.2 with e|e
    .exact .inl e.symm
    .exact .inr ⟨f,rfl,by have h1:f=X.heap.size+1:=e;have:=C.o.size;omega⟩
   exact⟨_,H1.o.ic T W.o (Bn u.o.1 zB 7 _) zA,(Tn.of V.o).trans T⟩
  have HK:Hid _:=S;clear S;go_wp2;go_ret;exact⟨rfl,HK.o⟩
end
theorem KO{c:A->Zj}(f:∀x,(c x).length=n){a:List A}(h:w.ownsRow base e n (Za g a.length cap) a.length (Ab c a))(i:Nat)(b:i<=a.length):w.ownsRow base e n (Za g i cap) i (Ab c (a.take i)):=by
 refine⟨by rw[Bu f,List.length_take];congr 1;omega,?_⟩;rcases h.2 with⟨e,_⟩|⟨s,k,j,e,q,r,t,l,o,p⟩
 .cases e
 .cases e;refine .inr ⟨g,cap,j,rfl,q,r,Yw,l,o,?_⟩;rw[<-FZ f a i b,<-p,List.take_take];congr 1;exact(Nat.min_eq_left (Nat.mul_le_mul_right n b)).symm
theorem YD(w:Zh):(zeroValue 163).run prog w=.ok (.agg #[Zd,Zd]) w:=Yt
theorem Nx(w:Zh)(k:TypeId)(b o c:Nat)(h:∀j,j<2->(w.cell? (Ze b (o+j))).isSome=true)(i:∀j,j<2->w.frozen? ⟨b,o+j,none⟩=false):
 (Builtin.clear_ #[37] k #[.slice (some ⟨b,o,none⟩) 1 c]).run prog w=.ok (.tuple #[]) (w.setCells b o [Zd,Zd]):=by
 have f:(Builtin.zeroCells (Value.agg #[Zd,Zd]).cells 1).toList=[Zd,Zd]:=Yt
 have a:=run_storeCells_cells (P:=prog) b o [Zd,Zd] 0 w (by simpa using h) (by simpa using i) (by intro v e;simp at e;rcases e with rfl|rfl<;>rfl);simp only[Nat.add_zero]at a;have g:=YD;simp[Builtin.clear_,run_underlying underlying37,g,f,a]
theorem Ny(g cap i:Nat)(a:List Pd)(w:Zh)(base:Nat)(r:w.ownsRow base 163 2 (Za g a.length cap) a.length (Ab pC a))(hl:a.length<=600)(hi:i<a.length):
 Calls prog 219 #[Za g a.length cap,Zg i,Zg ((i:Int)+1)] w fun e w'=>e=.returned (Za g (a.length -1) cap)/\w'.ownsRow base 163 2 (Za g (a.length -1) cap) (a.length -1) (Ab pC (a.eraseIdx i))/\w.grownBy w' (some g):=by
 obtain⟨K,o,U,E,V⟩:=info_parts GY;have n:a.length<=cap/\cap<=maxLen:=by
  rcases r.2 with⟨e,_⟩|⟨G,l,B,e,J,y,v,x,H,I⟩
  .cases e
  .cases e;exact⟨v,x⟩
 obtain⟨M,C⟩:=n;unfold maxLen at C;have hcut:=KO BM r i Yw;obtain⟨A,Z,c⟩:∃A,(if cap=i+1 then some (⟨g,0,none⟩:Addr)else some ⟨g,(i+1) *2,none⟩)=some A/\∀j u,(Ab pC (a.drop (i+1)))[j]?=some u->w.drew.cell? (A.add j)=some u:=by
  by_cases h:cap=i+1
  .refine⟨⟨g,0,none⟩,by rw[if_pos h],fun j u hu=> ?_⟩;rw[List.drop_of_length_le Yw]at hu;simp[Ab]at hu
  .refine⟨⟨g,(i+1) *2,none⟩,by rw[if_neg h],fun j u hu=> ?_⟩;rw[Go.WideShapes.add_plain];rw[<-Fo BM a (i+1) Yw,List.getElem?_drop]at hu;have D:=(Zw hu).1;rw[Bu BM]at D;exact(r.cellAt _ Yw).trans hu
 obtain⟨s,z,b,f⟩:=run_append_fits (P:=prog) w.drew base 37 37 163 K 2 underlying37 o E g i cap (Ab pC (a.take i)) hcut A (a.length -(i+1)) (cap -(i+1)) (Ab pC (a.drop (i+1))) (by rw[Bu BM,List.length_drop]) c (Jy _) Yw;rw[<-Bm,show i+(a.length -(i+1))=a.length -1 by omega]at b;rw[show i+(a.length -(i+1))=a.length -1 by omega]at z;have p:=(List.eraseIdx_eq_take_drop_succ a i).symm;rw[p]at b
 have t:=Yx (Zn b f);clear c b hcut p;go_enter func219,ntmps219;have N:¬((i:Int)==(i:Int)+1)=true:=Yu
 have Q:i<=cap:=Yw
 have R:(0:Int)<=(i:Int)+1:=Yw
 have S:(i:Int)+1<=(a.length:Int):=Yw
 have T:((i:Int)+1).toNat=i+1:=Yw
 go_upto_region 5 with fail
 go_region_law (first
  |(refine Bv Yr (.tmp 22) (.tmp 25) 37 37 Yr Yr (by simp[Act.eval,Act.put]) z ?_))
 all_goals
  have q:∀j,j<2->(s.cell? (Ze g ((a.length -1) *2+j))).isSome=true/\s.frozen? ⟨g,(a.length -1) *2+j,none⟩=false:=fun j k=>by
   obtain⟨b,f⟩:=t.o;rcases b.2 with⟨e,_⟩|⟨G,l,B,e,J,y,v,x,H,I⟩
   .cases e
   .cases e;constructor
    .simp only[World.cell?,y];rw[Array.getElem?_eq_getElem Yw];rfl
    .exact b.frozenAt _
  have F:=Nx s 0 g ((a.length -1) *2) (cap -(a.length -1)) (fun j k=>(q j k).1) (fun j k=>(q j k).2);have W:a.length -(a.length -1)=1:=Yw
  have X:¬cap=a.length -1:=Yw
  have Y:a.length -1<=a.length:=Yw
  go_wp2;go_ret;obtain⟨b,f⟩:=t.o;exact⟨rfl,Hm _ _ _ b (Zx),Aw (Dp f) (Ch g _ _ _)⟩
theorem MT(w:Zh):(zeroValue 164).run prog w=.ok (.agg #[Zf,Zd,Zf]) w:=Yt
theorem LA(w:Zh)(k:TypeId)(b o c:Nat)(h:∀j,j<3->(w.cell? (Ze b (o+j))).isSome=true)(i:∀j,j<3->w.frozen? ⟨b,o+j,none⟩=false):
 (Builtin.clear_ #[38] k #[.slice (some ⟨b,o,none⟩) 1 c]).run prog w=.ok (.tuple #[]) (w.setCells b o [Zf,Zd,Zf]):=by
 have f:(Builtin.zeroCells (Value.agg #[Zf,Zd,Zf]).cells 1).toList=[Zf,Zd,Zf]:=Yt
 have a:=run_storeCells_cells (P:=prog) b o [Zf,Zd,Zf] 0 w (by simpa using h) (by simpa using i) (by intro v e;simp at e;rcases e with rfl|rfl|rfl<;>rfl);simp only[Nat.add_zero]at a;have g:=MT;simp[Builtin.clear_,run_underlying underlying38,g,f,a]
theorem LC(g cap i:Nat)(a:List Ld)(w:Zh)(base:Nat)(r:w.ownsRow base 164 3 (Za g a.length cap) a.length (Ab lC a))(hl:a.length<=600)(hi:i<a.length):
 Calls prog 223 #[Za g a.length cap,Zg i,Zg ((i:Int)+1)] w fun e w'=>e=.returned (Za g (a.length -1) cap)/\w'.ownsRow base 164 3 (Za g (a.length -1) cap) (a.length -1) (Ab lC (a.eraseIdx i))/\w.grownBy w' (some g):=by
 obtain⟨K,o,U,E,V⟩:=info_parts Gv;have n:a.length<=cap/\cap<=maxLen:=by
  rcases r.2 with⟨e,_⟩|⟨G,l,B,e,J,y,v,x,H,I⟩
  .cases e
  .cases e;exact⟨v,x⟩
 obtain⟨M,C⟩:=n;unfold maxLen at C;have hcut:=KO Cy r i Yw;obtain⟨A,Z,c⟩:∃A,(if cap=i+1 then some (⟨g,0,none⟩:Addr)else some ⟨g,(i+1) *3,none⟩)=some A/\∀j u,(Ab lC (a.drop (i+1)))[j]?=some u->w.drew.cell? (A.add j)=some u:=by
  by_cases h:cap=i+1
  .refine⟨⟨g,0,none⟩,by rw[if_pos h],fun j u hu=> ?_⟩;rw[List.drop_of_length_le Yw]at hu;simp[Ab]at hu
  .refine⟨⟨g,(i+1) *3,none⟩,by rw[if_neg h],fun j u hu=> ?_⟩;rw[Go.WideShapes.add_plain];rw[<-Fo Cy a (i+1) Yw,List.getElem?_drop]at hu;have D:=(Zw hu).1;rw[Bu Cy]at D;exact(r.cellAt _ Yw).trans hu
 obtain⟨s,z,b,f⟩:=run_append_fits (P:=prog) w.drew base 38 38 164 K 3 underlying38 o E g i cap (Ab lC (a.take i)) hcut A (a.length -(i+1)) (cap -(i+1)) (Ab lC (a.drop (i+1))) (by rw[Bu Cy,List.length_drop]) c (Vu _) Yw;rw[<-Bm,show i+(a.length -(i+1))=a.length -1 by omega]at b;rw[show i+(a.length -(i+1))=a.length -1 by omega]at z;have p:=(List.eraseIdx_eq_take_drop_succ a i).symm;rw[p]at b
 have t:=Yx (Zn b f);clear c b hcut p;go_enter func223,ntmps223;have N:¬((i:Int)==(i:Int)+1)=true:=Yu
 have Q:i<=cap:=Yw
 have R:(0:Int)<=(i:Int)+1:=Yw
 have S:(i:Int)+1<=(a.length:Int):=Yw
 have T:((i:Int)+1).toNat=i+1:=Yw
 go_upto_region 5 with fail
 go_region_law (first
  |(refine Bv Yr (.tmp 22) (.tmp 25) 38 38 Yr Yr (by simp[Act.eval,Act.put]) z ?_))
 all_goals
  have q:∀j,j<3->(s.cell? (Ze g ((a.length -1) *3+j))).isSome=true/\s.frozen? ⟨g,(a.length -1) *3+j,none⟩=false:=fun j k=>by
   obtain⟨b,f⟩:=t.o;rcases b.2 with⟨e,_⟩|⟨G,l,B,e,J,y,v,x,H,I⟩
   .cases e
   .cases e;constructor
    .simp only[World.cell?,y];rw[Array.getElem?_eq_getElem Yw];rfl
    .exact b.frozenAt _
  have F:=LA s 0 g ((a.length -1) *3) (cap -(a.length -1)) (fun j k=>(q j k).1) (fun j k=>(q j k).2);have W:a.length -(a.length -1)=1:=Yw
  have X:¬cap=a.length -1:=Yw
  have Y:a.length -1<=a.length:=Yw
  go_wp2;go_ret;obtain⟨b,f⟩:=t.o;exact⟨rfl,Hm _ _ _ b (Zx),Aw (Dp f) (Ch g _ _ _)⟩
def DR(x y:Int):Int:=if x<y then -1 else if y<x then 1 else 0
theorem OM(x y:Int):DR x y<0↔x<y:=by unfold DR;split<;>(try split)<;>omega
theorem MU(x y:Int):DR x y=0↔x=y:=by unfold DR;split<;>(try split)<;>omega
theorem ON(x:Int)(w:Zh):Calls prog 245 #[Zg x] w fun e w'=>e=.returned (.bool false)/\w'=w:=by
 have a:(x !=x)=false:=Yv
 go_enter func245,ntmps245;go_wp2;go_ret;exact⟨rfl,rfl⟩
theorem Vz(x y:Int)(w:Zh):Calls prog 222 #[Zg x,Zg y] w fun e w'=>e=.returned (Zg (DR x y))/\w'=w:=by
 go_enter func222,ntmps222;go_wp2_with fail;refine(ON x w).mono ?_;rintro e f ⟨rfl,rfl⟩;go_wp2_with fail;refine(ON y f).mono ?_;rintro e g ⟨rfl,rfl⟩;by_cases h1:x<y
 .have c:decide (x<y)=true:=by simpa using h1
  have a:DR x y= -1:=by unfold DR;rw[if_pos h1]
  clear h1;go_wp2;go_ret;exact⟨by rw[a];rfl,rfl⟩
 .have c:decide (x<y)=false:=by simpa using h1
  by_cases h2:y<x
  .have b:decide (y<x)=true:=by simpa using h2
   have a:DR x y=1:=by unfold DR;rw[if_neg h1,if_pos h2]
   clear h1 h2;go_wp2;go_ret;exact⟨by rw[a];rfl,rfl⟩
  .have b:decide (y<x)=false:=by simpa using h2
   have a:DR x y=0:=by unfold DR;rw[if_neg h1,if_neg h2]
   clear h1 h2;go_wp2;go_ret;exact⟨by rw[a];rfl,rfl⟩
def Ev(x y:Zi):Int:=if less x y=true then -1 else if x=y then 0 else 1
theorem OO(x y:Zi):Ev x y<0↔less x y=true:=by
 unfold Ev;by_cases h:less x y=true
 .rw[if_pos h];exact⟨fun _=>h,fun _=>by omega⟩
 .rw[if_neg h];refine⟨fun e=> ?_,fun e=>absurd e h⟩;split at e<;>omega
theorem JC(x y:Zi):Ev x y=0↔x=y:=by
 unfold Ev;by_cases h:less x y=true
 .rw[if_pos h];refine⟨fun e=>by omega,fun e=> ?_⟩;rw[e,Co]at h;cases h
 .rw[if_neg h];split
  .rename_i h2;exact⟨fun _=>h2,fun _=>rfl⟩
  .rename_i h2;exact⟨fun e=>by omega,fun e=>absurd e h2⟩
theorem OP(x:Zi)(w:Zh):Calls prog 249 #[.string x] w fun e w'=>e=.returned (.bool false)/\w'=w:=by
 have a:(x.toList !=x.toList)=false:=Yv
 go_enter func249,ntmps249;go_wp2;go_ret;exact⟨rfl,rfl⟩
theorem VA(x y:Zi)(w:Zh):Calls prog 242 #[.string x,.string y] w fun e w'=>e=.returned (Zg (Ev x y))/\w'=w:=by
 go_enter func242,ntmps242;go_wp2_with fail;refine(OP x w).mono ?_;rintro e c ⟨rfl,rfl⟩;go_wp2_with fail;refine(OP y c).mono ?_;rintro e f ⟨rfl,rfl⟩;cases h1:Op.bytesLess x.toList y.toList with
 |true=>
  have a:Hid (Ev x y= -1):=by show _=_;unfold Ev less;rw[if_pos h1]
  go_wp2;go_ret;exact⟨by rw[a.o];rfl,rfl⟩
 |false=>
  by_cases h2:x=y
  .have a:=Yx ((JC x y).2 h2);have b:(x.toList==y.toList)=true:=by rw[h2];simp
   clear h2;go_wp2;go_ret;exact⟨by rw[a.o];rfl,rfl⟩
  .have a:Hid (Ev x y=1):=by show _=_;unfold Ev less;rw[if_neg (by rw[h1];simp),if_neg h2]
   have b:=Cd h2;clear h2;go_wp2;go_ret;exact⟨by rw[a.o];rfl,rfl⟩
theorem MV(x:Ld)(n:Int)(w:Zh):Calls prog 221 #[.agg #[Zg x.V,.string x.sum,Zg x.bg],Zg n] w fun e w'=>e=.returned (Zg (DR x.V n))/\Zz w w':=by have a:∀o,Zz w (w.alloc o):=fun o=>Zy;go_enter func221,ntmps221;go_wp2_with fail;refine(Vz x.V n _).mono ?_;rintro e b ⟨rfl,rfl⟩;go_wp2;go_ret;exact⟨rfl,a _⟩
theorem LD(x:Pd)(n:Zi)(w:Zh):Calls prog 241 #[.agg #[.string x.name,.string x.sum],.string n] w fun e w'=>e=.returned (Zg (Ev x.name n))/\Zz w w':=by have a:∀o,Zz w (w.alloc o):=fun o=>Zy;go_enter func241,ntmps241;go_wp2_with fail;refine(VA x.name n _).mono ?_;rintro e b ⟨rfl,rfl⟩;go_wp2;go_ret;exact⟨rfl,a _⟩
structure JD (ls:List Ld) (n:Int) (i:Nat):Prop where
 le:i<=ls.length
 lo:∀j x,j<i->ls[j]?=some x->x.V<n
 hi:∀j x,i<=j->ls[j]?=some x->n<=x.V
theorem Ie(g cap:Nat)(ls:List Ld)(n:Int)(w:Zh)(base:Nat)(z:w.ownsRow base 164 3 (Za g ls.length cap) ls.length (Ab lC ls))(Z:ls.length<=600)(o:ls.Pairwise (fun a b=>a.V<b.V)):
 Calls prog 220 #[Za g ls.length cap,Zg n,.func (.func 221) #[] #[]] w fun e w'=>∃i:Nat,e=.returned (.tuple #[Zg i,.bool (decide (∃x,ls[i]?=some x/\x.V=n))])/\JD ls n i/\Zz w w':=by
 have U:=(Ac z rfl).2;have W:=Yx z;have I:Hid (∀(X:Zh),Zz w X->∀k x,ls[k]?=some x->X.cell? (Ze g (k *3))=some (Zg x.V)/\X.cell? (Ze g (k *3+1))=some (.string x.sum)/\X.cell? (Ze g (k *3+2))=some (Zg x.bg)):=fun X Q k x A=>by have h:=Ae z Q;have Y:=(Zw A).1;have l:∀j,j<3->X.cell? (Ze g (k *3+j))=(lC x)[j]?:=fun j E=>(h.cellAt (k *3+j) Yw).trans (Br Cy A E);exact⟨by simpa [lC]using l 0 Ys,by simpa [lC]using l 1 Ys,by simpa [lC]using l 2 Ys⟩
 have HS:=Yx o;clear z o;go_enter func220,ntmps220;have T:=enters_of func221 Yt rfl;go_wp2
 go_loopw [9,10] (fun i j wr=>∃lo c:Nat,i=Zg lo/\j=Zg c/\lo<=c/\c<=ls.length/\Hid ((∀j x,j<lo->ls[j]?=some x->x.V<n)/\(∀j x,c<=j->ls[j]?=some x->n<=x.V))/\Zz w wr) (fun i j _=>(intOf j).toNat -(intOf i).toNat)
 case atStart=>exact⟨0,ls.length,rfl,rfl,Nat.zero_le _,Zx,⟨fun j x h=>by omega,fun j x h A=>by have:=(Zw A).1;omega⟩,Below.refl _ _⟩
 case round=>
  obtain⟨lo,c,rfl,rfl,V,B,v,f⟩:=hrel;have C:=f.size;by_cases hlt:lo<c
  .have u:(lo+c)/2<ls.length:=Yw
   have p:=Yx (Zv u);generalize ls[(lo+c)/2]=x at *
   obtain⟨r0,F,G⟩:=I.o wr f _ _ p.o;go_wp2_with fail;refine(MV x n wr).mono ?_;rintro e S ⟨rfl,t⟩;have r:=f.trans (t.mono C);clear r0 F G;by_cases l:x.V<n
   .have R:decide (DR x.V n<0)=true:=by simpa using (OM _ _).2 l
    have s:=Yx l;clear l;generalize DR x.V n=cv at *
    go_wp2;refine⟨⟨(lo+c)/2+1,c,Yp,rfl,Yw,B,⟨?_,v.o.2⟩,r⟩,by simp[intOf];omega⟩;intro j y E q;rcases Nat.lt_or_ge j ((lo+c)/2)with h|h
    .have:=List.pairwise_iff_getElem.1 HS.o j ((lo+c)/2) Yw u h;obtain⟨_,rfl⟩:=Zw q;obtain⟨_,e⟩:=Zw p.o;rw[e]at this;have N:=s.o;omega
    .obtain rfl:j=(lo+c)/2:=Yw
     rw[p.o]at q;cases q;exact s.o
   .have R:decide (DR x.V n<0)=false:=by simpa using fun e=>l ((OM _ _).1 e)
    have s:=Yx (Int.not_lt.1 l);clear l;generalize DR x.V n=cv at *
    go_wp2;refine⟨⟨lo,(lo+c)/2,rfl,Yp,Yw,Yw,⟨v.o.1,?_⟩,r⟩,by simp[intOf];omega⟩;intro j y E q;rcases Nat.lt_or_ge ((lo+c)/2) j with h|h
    .have J:=(Zw q).1;have:=List.pairwise_iff_getElem.1 HS.o ((lo+c)/2) j u J h;obtain⟨_,rfl⟩:=Zw q;obtain⟨_,e⟩:=Zw p.o;rw[e]at this;have N:=s.o;omega
    .obtain rfl:j=(lo+c)/2:=Yw
     rw[p.o]at q;cases q;exact s.o
  .obtain rfl:lo=c:=Yw
   have H:Hid (JD ls n lo):=⟨B,v.o.1,v.o.2⟩;by_cases hn:lo<ls.length
   .have p:=Yx (Zv hn);generalize ls[lo]=x at *
    obtain⟨r0,F,G⟩:=I.o wr f _ _ p.o;have K:(lo:Int)<ls.length:=Yw
    go_wp2_with fail;refine(MV x n wr).mono ?_;rintro e S ⟨rfl,t⟩;have r:=f.trans (t.mono C);clear r0 F G;have D:Hid (decide (∃y,ls[lo]?=some y/\y.V=n)=(DR x.V n==0)):=by
     show _=_;rw[p.o];by_cases h:x.V=n
     .rw[(MU x.V n).2 h];simp[h]
     .have M:¬DR x.V n=0:=fun e=>h ((MU x.V n).1 e);rw[show(DR x.V n==0)=false by simpa using M];simp[h]
    generalize DR x.V n=cv at *
    go_wp2
    go_ret2
    exact⟨lo,by rw[D.o];first|rfl|simp[Act.put],H.o,r⟩
   .have D:Hid (decide (∃y,ls[lo]?=some y/\y.V=n)=false):=by show _=_;rw[List.getElem?_eq_none Yw];simp
    have K:¬((lo:Int)<ls.length):=Yw
    go_wp2
    go_ret2
    exact⟨lo,by rw[D.o];first|rfl|simp[Act.put],H.o,f⟩
structure DS (ls:List Pd) (n:Zi) (i:Nat):Prop where
 le:i<=ls.length
 lo:∀j x,j<i->ls[j]?=some x->less x.name n=true
 hi:∀j x,i<=j->ls[j]?=some x->less x.name n=false
theorem Jp(g cap:Nat)(ls:List Pd)(n:Zi)(w:Zh)(base:Nat)(z:w.ownsRow base 163 2 (Za g ls.length cap) ls.length (Ab pC ls))(Y:ls.length<=600)(l:ls.Pairwise (fun a b=>less a.name b.name=true)):
 Calls prog 240 #[Za g ls.length cap,.string n,.func (.func 241) #[] #[]] w fun e w'=>∃i:Nat,e=.returned (.tuple #[Zg i,.bool (decide (∃x,ls[i]?=some x/\x.name=n))])/\DS ls n i/\Zz w w':=by
 have T:=(Ac z rfl).2;have V:=Yx z;have H:Hid (∀(X:Zh),Zz w X->∀k x,ls[k]?=some x->X.cell? (Ze g (k *2))=some (.string x.name)/\X.cell? (Ze g (k *2+1))=some (.string x.sum)):=fun X N k x A=>by have h:=Ae z N;have W:=(Zw A).1;have o:∀j,j<2->X.cell? (Ze g (k *2+j))=(pC x)[j]?:=fun j E=>(h.cellAt (k *2+j) Yw).trans (Br BM A E);exact⟨by simpa [pC]using o 0 Ys,by simpa [pC]using o 1 Ys⟩
 have HS:=Yx l;clear z l;go_enter func240,ntmps240;have S:=enters_of func241 Yt rfl;go_wp2
 go_loopw [9,10] (fun i j wr=>∃lo c:Nat,i=Zg lo/\j=Zg c/\lo<=c/\c<=ls.length/\Hid ((∀j x,j<lo->ls[j]?=some x->less x.name n=true)/\(∀j x,c<=j->ls[j]?=some x->less x.name n=false))/\Zz w wr) (fun i j _=>(intOf j).toNat -(intOf i).toNat)
 case atStart=>exact⟨0,ls.length,rfl,rfl,Nat.zero_le _,Zx,⟨fun j x h=>by omega,fun j x h A=>by have:=(Zw A).1;omega⟩,Below.refl _ _⟩
 case round=>
  obtain⟨lo,c,rfl,rfl,U,B,v,f⟩:=hrel;have C:=f.size;by_cases hlt:lo<c
  .have u:(lo+c)/2<ls.length:=Yw
   have p:=Yx (Zv u);generalize ls[(lo+c)/2]=x at *
   obtain⟨r0,F⟩:=H.o wr f _ _ p.o;go_wp2_with fail;refine(LD x n wr).mono ?_;rintro e R ⟨rfl,t⟩;have r:=f.trans (t.mono C);clear r0 F;by_cases o:less x.name n=true
   .have Q:decide (Ev x.name n<0)=true:=by simpa using (OO _ _).2 o
    have s:=Yx o;clear o;generalize Ev x.name n=cv at *
    go_wp2;refine⟨⟨(lo+c)/2+1,c,Yp,rfl,Yw,B,⟨?_,v.o.2⟩,r⟩,by simp[intOf];omega⟩;intro j y E q;rcases Nat.lt_or_ge j ((lo+c)/2)with h|h
    .have:=List.pairwise_iff_getElem.1 HS.o j ((lo+c)/2) Yw u h;obtain⟨_,rfl⟩:=Zw q;obtain⟨_,e⟩:=Zw p.o;rw[e]at this;exact Cw this s.o
    .obtain rfl:j=(lo+c)/2:=Yw
     rw[p.o]at q;cases q;exact s.o
   .have Q:decide (Ev x.name n<0)=false:=by simpa using fun e=>o ((OO _ _).1 e)
    have s:Hid (less x.name n=false):=by show _=_;simpa using o
    clear o;generalize Ev x.name n=cv at *
    go_wp2;refine⟨⟨lo,(lo+c)/2,rfl,Yp,Yw,Yw,⟨v.o.1,?_⟩,r⟩,by simp[intOf];omega⟩;intro j y E q;rcases Nat.lt_or_ge ((lo+c)/2) j with h|h
    .have J:=(Zw q).1;have:=List.pairwise_iff_getElem.1 HS.o ((lo+c)/2) j u J h;obtain⟨_,rfl⟩:=Zw q;obtain⟨_,e⟩:=Zw p.o;rw[e]at this;have I:=s.o;cases h':less ls[j].name n with
     |false=>rfl
     |true=>rw[Cw this h']at I;cases I
    .obtain rfl:j=(lo+c)/2:=Yw
     rw[p.o]at q;cases q;exact s.o
  .obtain rfl:lo=c:=Yw
   have G:Hid (DS ls n lo):=⟨B,v.o.1,v.o.2⟩;by_cases hn:lo<ls.length
   .have p:=Yx (Zv hn);generalize ls[lo]=x at *
    obtain⟨r0,F⟩:=H.o wr f _ _ p.o;have K:(lo:Int)<ls.length:=Yw
    go_wp2_with fail;refine(LD x n wr).mono ?_;rintro e R ⟨rfl,t⟩;have r:=f.trans (t.mono C);clear r0 F;have D:Hid (decide (∃y,ls[lo]?=some y/\y.name=n)=(Ev x.name n==0)):=by
     show _=_;rw[p.o];by_cases h:x.name=n
     .rw[(JC x.name n).2 h];simp[h]
     .have M:¬Ev x.name n=0:=fun e=>h ((JC x.name n).1 e);rw[show(Ev x.name n==0)=false by simpa using M];simp[h]
    generalize Ev x.name n=cv at *
    go_wp2
    go_ret2
    exact⟨lo,by rw[D.o];first|rfl|simp[Act.put],G.o,r⟩
   .have D:Hid (decide (∃y,ls[lo]?=some y/\y.name=n)=false):=by show _=_;rw[List.getElem?_eq_none Yw];simp
    have K:¬((lo:Int)<ls.length):=Yw
    go_wp2
    go_ret2
    exact⟨lo,by rw[D.o];first|rfl|simp[Act.put],G.o,f⟩
theorem JE{v:Value}(h:w.ownsRow base e size v n a)(c:0<n):∃g cap,v=Za g n cap:=by
 rcases h.2 with⟨_,f⟩|⟨g,cap,b,rfl,_⟩
 .omega
 .exact⟨g,cap,rfl⟩
theorem JD.at{n:Int}(h:JD ls n i)(o:∃x∈ls,x.V=n)(c:ls.Pairwise (fun a b=>a.V<b.V)):∃x,ls[i]?=some x/\x.V=n:=by
 obtain⟨x,r,q⟩:=o;obtain⟨j,g⟩:=List.getElem?_of_mem r;have l:=(Zw g).1;have k:i=j:=by
  rcases Nat.lt_trichotomy i j with f|f|f
  .have s:=h.hi i ls[i] (Zx) (Zv Yw);have p:=List.pairwise_iff_getElem.1 c i j Yw l f;obtain⟨_,e⟩:=Zw g;rw[e]at p;omega
  .exact f
  .have:=h.lo j x f g;omega
 exact⟨x,k▸g,q⟩
theorem DS.at{ls:List Pd}{n:Zi}(h:DS ls n i)(r:∃x∈ls,x.name=n)(c:ls.Pairwise (fun a b=>less a.name b.name=true)):∃x,ls[i]?=some x/\x.name=n:=by
 obtain⟨x,s,k⟩:=r;obtain⟨j,g⟩:=List.getElem?_of_mem s;have q:=(Zw g).1;have p:i=j:=by
  rcases Nat.lt_trichotomy i j with f|f|f
  .have l:=h.hi i ls[i] (Zx) (Zv Yw);have o:=List.pairwise_iff_getElem.1 c i j Yw q f;obtain⟨_,e⟩:=Zw g;rw[e,k]at o;rw[o]at l;cases l
  .exact f
  .have:=h.lo j x f g;rw[k,Co]at this;cases this
 exact⟨x,p▸g,k⟩
def Bp(ls:List Ld)(n:Int):List Ld:=ls.filter (fun x=> !decide (x.V=n))
def Ba(ps:List Pd)(n:Zi):List Pd:=ps.filter (fun x=> !decide (x.name=n))
theorem Hp{q:A->Bool}:∀{xs:List A} {i:Nat} {x:A},xs[i]?=some x->q x=false->(∀j y,xs[j]?=some y->j≠i->q y=true)->xs.filter q=xs.eraseIdx i
 |[],i,x,hx,_,_=>by simp at hx
 |y::ys,0,x,hx,hq,ho=>by
  simp only[List.getElem?_cons_zero,Option.some.injEq]at hx;subst hx;rw[List.filter_cons,hq,List.eraseIdx_cons_zero];simp only[Bool.false_eq_true,if_false];exact List.filter_eq_self.2 (fun z c=>by
   obtain⟨j,a⟩:=List.getElem?_of_mem c;exact ho (j+1) z (by simpa using a) Yw)
 |y::ys,i+1,x,hx,hq,ho=>by have b:=ho 0 y Yv Yw;rw[List.filter_cons,b,List.eraseIdx_cons_succ];simp only[if_true];rw[Hp (i:=i) (x:=x) (by simpa using hx) hq (fun j z a e=>ho (j+1) z (by simpa using a) Yw)]
theorem Qa{n:Int}{x:Ld}(g:ls[i]?=some x)(q:x.V=n)(c:ls.Pairwise (fun a b=>a.V<b.V)):Bp ls n=ls.eraseIdx i:=by
 refine Hp g (by simp[q]) (fun j y o p=> ?_);have e:=(Zw g).1;have f:=(Zw o).1;obtain⟨_,k⟩:=Zw g;obtain⟨_,l⟩:=Zw o;rcases Nat.lt_or_gt_of_ne p with h|h
 .have:=List.pairwise_iff_getElem.1 c j i f e h;rw[k,l]at this;simp;omega
 .have:=List.pairwise_iff_getElem.1 c i j e f h;rw[k,l]at this;simp;omega
theorem OQ{ls:List Pd}{n:Zi}{x:Pd}(o:ls[i]?=some x)(l:x.name=n)(c:ls.Pairwise (fun a b=>less a.name b.name=true)):Ba ls n=ls.eraseIdx i:=by
 refine Hp o (by simp[l]) (fun j y r s=> ?_);have g:=(Zw o).1;have k:=(Zw r).1;obtain⟨_,p⟩:=Zw o;obtain⟨_,q⟩:=Zw r;have f:y.name≠n:=fun e=>by
  rcases Nat.lt_or_gt_of_ne s with h|h
  .have:=List.pairwise_iff_getElem.1 c j i k g h;rw[p,q,e,l,Co]at this;cases this
  .have:=List.pairwise_iff_getElem.1 c i j g k h;rw[p,q,e,l,Co]at this;cases this
 simpa using f
theorem VB(base d m:Nat)(O P L:Value)(wd now given births:Int)(ks:List Kd)(ps:List Pd)(ls:List Ld)(n:Int)(w:Zh)(h:DU w base d m O P L wd now given births ks ps ls)(U:ls.length<=200)(f:ls.Pairwise (fun a b=>a.V<b.V))(s:∃x∈ls,x.V=n):
 Calls prog 185 #[.pointer (some ⟨d,0,none⟩),Zg n] w fun e w'=>e=.returned (.tuple #[])/\∃F,DU w' base d m O P F wd now given births ks ps (Bp ls n)/\Tn (d::L.ownBlock.toList) w w':=by
 have z:0<ls.length:=by obtain⟨x,S,_⟩:=s;exact List.length_pos_of_mem S
 obtain⟨g,cap,M⟩:=JE h.I.ci z;subst M;have G:Hid _:=h;have p:Hid _:=f;have A:Hid _:=s;have HS:Hid _:=Ie g cap ls n w base h.I.ci (by omega) f;obtain⟨c7,_⟩:=h.I.box 7 _ rfl;clear h f s;go_enter func185,ntmps185;go_wp2_with fail;refine Calls.mono HS.o ?_;rintro e J ⟨i,rfl,E,q⟩;obtain⟨x,o,t⟩:=E.at A.o p.o;have j:decide (∃x,ls[i]?=some x/\x.V=n)=true:=by simpa using ⟨x,o,t⟩
 have B:=(Zw o).1;have N:Hid _:=Qa o t p.o;have l:=G.o.below q;have k:Hid _:=l;have K:Hid _:=q;have y:Hid _:=LC g cap i ls J base l.I.ci (by omega) B;obtain⟨R,_⟩:=l.I.box 7 _ rfl;rw[j];clear j o t E l q G HS A p c7;go_wp2_with fail;refine Calls.mono y.o ?_;rintro e v ⟨rfl,D,r⟩;have C:∀b,(Value.slice (some ⟨g,0,none⟩) (ls.length -1) cap).ownBlock=some b->b≠d:=fun b u=>((Dq k.o.I.ap).2.2.2 b u).1
 have c:=Aa.same k.o.I.box (r.block d k.o.I.box.lt (fun e=>C g rfl (Option.some.inj e).symm));obtain⟨T,V⟩:=c 7 _ rfl;have H:∃F,DU (v.setCell (Ze d 7) (.slice (some ⟨g,0,none⟩) (ls.length -1) cap)) base d m O P F wd now given births ks ps (Bp ls n)/\Tn (d::(Value.slice (some ⟨g,0,none⟩) ls.length cap).ownBlock.toList) w (v.setCell (Ze d 7) (.slice (some ⟨g,0,none⟩) (ls.length -1) cap)):=by
  have I:Tn (d::(Value.slice (some ⟨g,0,none⟩) ls.length cap).ownBlock.toList) J (v.setCell (Ze d 7) (.slice (some ⟨g,0,none⟩) (ls.length -1) cap)):=
   ((BV r).mono (by intro b u;simp[Value.ownBlock]at u |-;exact .inr u)).trans ((AM v d 7 _).mono (by simp))
  refine⟨_,k.o.ic I (c.set 7 _) ?_ (.inl rfl),(Tn.of K.o).trans I⟩;rw[N.o,List.length_eraseIdx,if_pos B];exact Bn D C 7 _
 have Q:Hid _:=H;clear H D r c R;go_wp2
 go_end0
 exact⟨rfl,Q.o⟩
theorem JF(base d m:Nat)(O L:Value)(g cap:Nat)(wd now given births:Int)(ks:List Kd)(ps:List Pd)(ls:List Ld)(n:Zi)(w:Zh)(h:DU w base d m O (Za g ps.length cap) L wd now given births ks ps ls)(p:ps.length<=200)(c:ps.Pairwise (fun a b=>less a.name b.name=true)):
 Calls prog 217 #[Yz d,.string n] w fun e w'=>∃i:Nat,e=.returned (.tuple #[Zg i,.bool (decide (∃x,ps[i]?=some x/\x.name=n))])/\DS ps n i/\Zz w w':=by
 have HS:=Yx (Jp g cap ps n w base h.I.cg Yw c);obtain⟨c6,_⟩:=h.I.box 6 _ rfl;clear h c;go_enter func217,ntmps217;go_wp2_with fail;refine Calls.mono HS.o ?_;rintro e q ⟨i,rfl,o,l⟩;obtain⟨j,f⟩:∃j,decide (∃x,ps[i]?=some x/\x.name=n)=j:=⟨_,rfl⟩;have k:=Yx f;rw[f];clear f;go_wp2
 go_ret2
 exact⟨i,by rw[k.o];rfl,o,l⟩
theorem TE(base d m:Nat)(O P L:Value)(wd now given births:Int)(ks:List Kd)(ps:List Pd)(ls:List Ld)(n:Zi)(w:Zh)(h:DU w base d m O P L wd now given births ks ps ls)(S:ps.length<=200)(f:ps.Pairwise (fun a b=>less a.name b.name=true))(s:∃x∈ps,x.name=n):
 Calls prog 184 #[.pointer (some ⟨d,0,none⟩),.string n] w fun e w'=>e=.returned (.tuple #[])/\∃F,DU w' base d m O F L wd now given births ks (Ba ps n) ls/\Tn (d::P.ownBlock.toList) w w':=by
 have z:0<ps.length:=by obtain⟨x,T,_⟩:=s;exact List.length_pos_of_mem T
 obtain⟨g,cap,M⟩:=JE h.I.cg z;subst M;have G:Hid _:=h;have p:Hid _:=f;have A:Hid _:=s;have HS:Hid _:=JF base d m O L g cap wd now given births ks ps ls n w h S f;clear h f s;go_enter func184,ntmps184;go_wp2_with fail;refine Calls.mono HS.o ?_;rintro e J ⟨i,rfl,E,q⟩;obtain⟨x,o,t⟩:=E.at A.o p.o;have j:decide (∃x,ps[i]?=some x/\x.name=n)=true:=by simpa using ⟨x,o,t⟩
 have B:=(Zw o).1;have N:Hid _:=OQ o t p.o;have l:=G.o.below q;have k:Hid _:=l;have K:Hid _:=q;have y:Hid _:=Ny g cap i ps J base l.I.cg (by omega) B;obtain⟨R,_⟩:=l.I.box 6 _ rfl;rw[j];clear j o t E l q G HS A p;go_wp2_with fail;refine Calls.mono y.o ?_;rintro e v ⟨rfl,D,r⟩;have C:∀b,(Value.slice (some ⟨g,0,none⟩) (ps.length -1) cap).ownBlock=some b->b≠d:=fun b u=>((Dq k.o.I.ap).2.2.1 b u).1
 have c:=Aa.same k.o.I.box (r.block d k.o.I.box.lt (fun e=>C g rfl (Option.some.inj e).symm));obtain⟨U,V⟩:=c 6 _ rfl;have H:∃F,DU (v.setCell (Ze d 6) (.slice (some ⟨g,0,none⟩) (ps.length -1) cap)) base d m O F L wd now given births ks (Ba ps n) ls/\Tn (d::(Value.slice (some ⟨g,0,none⟩) ps.length cap).ownBlock.toList) w (v.setCell (Ze d 6) (.slice (some ⟨g,0,none⟩) (ps.length -1) cap)):=by
  have I:Tn (d::(Value.slice (some ⟨g,0,none⟩) ps.length cap).ownBlock.toList) J (v.setCell (Ze d 6) (.slice (some ⟨g,0,none⟩) (ps.length -1) cap)):=
   ((BV r).mono (by intro b u;simp[Value.ownBlock]at u |-;exact .inr u)).trans ((AM v d 6 _).mono (by simp))
  refine⟨_,k.o.ie I (c.set 6 _) ?_ (.inl rfl),(Tn.of K.o).trans I⟩;rw[N.o,List.length_eraseIdx,if_pos B];exact Bn D C 6 _
 have Q:Hid _:=H;clear H D r c R;go_wp2
 go_end0
 exact⟨rfl,Q.o⟩
def AN(ls:List Ld)(n:Int):List Ld:=ls.filter (fun x=> !decide (x.bg<=n))
theorem MW(x:Ld)(b d:Nat)(n:Int)(w:Zh)(f:w.cell? (Ze b 0)=some (Yz d))(g:w.cell? (Ze d 2)=some (Zg n)):
 Calls prog 225 #[.agg #[Zg x.V,.string x.sum,Zg x.bg],Yz b] w fun e w'=>e=.returned (.bool (decide (x.bg<=n)))/\Zz w w':=by
 obtain⟨W,c⟩:∃W,W=w.alloc (.cells #[Zg x.V,.string x.sum,Zg x.bg] 164):=⟨_,rfl⟩;have a:=(AA c).1;have l:W.cell? (Ze (w.heap.size) 2)=some (Zg x.bg):=by rw[c];simp[go_sem]
 have i:=(a.cell (p:=⟨b,0,none⟩) (World.block_lt_of_cell? w _ f)).trans f;have c2:=(a.cell (p:=⟨d,2,none⟩) (World.block_lt_of_cell? w _ g)).trans g;have o:b<W.heap.size/\d<W.heap.size:=⟨World.block_lt_of_cell? W _ i,World.block_lt_of_cell? W _ c2⟩;have h:=Yx c;clear c f g;go_enter func225,ntmps225;go_upto_region 1 with fail;rw[<-h.o];clear h;have k:=Yx a;clear a;cases hbb:decide (x.bg<=n)
 all_goals
  have j:=Yx hbb;go_region_with fail
  all_goals
   clear l i c2;go_wp2;go_ret;exact⟨by rw[j.o];rfl,k.o.drew⟩
def YE(ls:List Ld)(n r:Int):Prop:=(r= -1/\∀x∈ls,n<x.bg)\/∃(i:Nat) (x:Ld),r=i/\ls[i]?=some x/\x.bg<=n/\∀j y,j<i->ls[j]?=some y->n<y.bg
theorem Jq(a:Zk)(cap b d:Nat)(n:Int)(ls:List Ld)(w:Zh)(g:AI w w.heap.size a ls)(U:ls.length<=1048576)(v:w.cell? (Ze b 0)=some (Yz d))(A:w.cell? (Ze d 2)=some (Zg n)):
 Calls prog 229 #[.slice a ls.length cap,.func (.func 225) #[] #[Yz b]] w fun e w'=>∃r:Int,e=.returned (Zg r)/\YE ls n r/\Zz w w':=by
 have C:=World.block_lt_of_cell? w _ v;have E:=World.block_lt_of_cell? w _ A;go_enter func229,ntmps229;go_wp2
 go_loopw [8] (fun i wr=>∃k:Nat,k<=ls.length/\i=Zg k/\Hid (∀j x,j<k->ls[j]?=some x->n<x.bg)/\Zz w wr) (fun i _=>ls.length -(intOf i).toNat)
 case atStart=>exact⟨0,Nat.zero_le _,rfl,(fun j x h=>by omega),Below.refl _ _⟩
 case round=>
  obtain⟨k,T,rfl,f,c⟩:=hrel;have G:=c.size;by_cases hlt:k<ls.length
  .obtain⟨N,M,J,S,q⟩:=(g.below c).at hlt;subst J;have s:=Yx (Zv hlt);obtain⟨Q,R,c2⟩:=q k _ s.o;have D:=(c.cell (p:=⟨b,0,none⟩) C).trans v;have F:=(c.cell (p:=⟨d,2,none⟩) E).trans A;clear q g;generalize ls[k]=x at *
   go_wp2_with fail;refine(MW x b d n wr D F).mono ?_;rintro e V ⟨rfl,B⟩;have o:=c.trans (B.mono G);by_cases h:x.bg<=n
   .have l:decide (x.bg<=n)=true:=by simpa using h
    have I:=Yx h;rw[l];clear h l;go_wp2;go_ret;exact⟨_,rfl,.inr ⟨k,x,rfl,s.o,I.o,f.o⟩,o⟩
   .have H:Hid (∀j y,j<k+1->ls[j]?=some y->n<y.bg):=by
     intro j y z t;rcases Nat.lt_or_ge j k with u|u
     .exact f.o j y u t
     .obtain rfl:j=k:=Yw
      rw[s.o]at t;cases t;exact Int.not_le.1 h
    have l:decide (x.bg<=n)=false:=by simpa using h
    rw[l];clear h l;go_wp2;exact⟨⟨k+1,Yw,Yp,H,o⟩,by simp[intOf];omega⟩
  .go_wp2;go_ret;refine⟨_,rfl,.inl ⟨rfl,fun x K=> ?_⟩,c⟩;obtain⟨j,z,rfl⟩:=List.getElem_of_mem K;exact f.o j _ Yw (Zv z)
def AF(ks:List Kd):Nat:=(ks.map (fun k=>k.B.length)).sum
theorem IV(h:ks[k]?=some x):AF (ks.take (k+1))=AF (ks.take k)+x.B.length:=by unfold AF;rw[List.take_add_one,h];simp
theorem GR(ks:List Kd)(k:Nat):AF (ks.take k)<=AF ks:=by
 have h:AF ks=AF (ks.take k)+AF (ks.drop k):=by unfold AF;rw[<-List.sum_append,<-List.map_append,List.take_append_drop]
 omega
theorem TF(t:Zi)(a:Zk)(cap:Nat)(b:Zl)(left:Int)(w:Zh)(c:Ad w w.heap.size a b)(l:t.size<=maxLen)(j:b.length<=maxLen)(k:∀s∈b,s.size<=maxLen)(i:0<=left)(g:left<=1048576):
 Calls prog 135 #[.agg #[.string t,.slice a b.length cap],Zg left] w fun e w'=>∃r:Int,e=.returned (Zg r)/\Zz w w'/\r<=left/\(0<=r->b.length<=1048576/\r<=left -b.length):=by
 by_cases hfit:(t.size:Int)+b.length+ax b<=left
 .refine(PL t a cap b left w c g hfit).mono ?_;rintro e w' ⟨rfl,f⟩;exact⟨_,rfl,f,Yw,fun _=>⟨Yw,Yw⟩⟩
 .refine(Rm t a cap b left w c l j k i g Yw).mono ?_;rintro e w' ⟨rfl,f⟩;exact⟨_,rfl,f,Yw,fun h=>by omega⟩
theorem VC(k:Kd)(a:Zk)(cap:Nat)(left:Int)(w:Zh)(b:Ad w w.heap.size a k.B)(l:k.sum.size<=maxLen)(p:k.M.size<=maxLen)(n:k.B.length<=maxLen)(o:∀s∈k.B,s.size<=maxLen)(q:0<=left)(t:left<=1048576):
 Calls prog 87 #[.agg #[.string k.sum,Zg k.born,.string k.M,.slice a k.B.length cap],Zg left] w fun e w'=>∃r:Int,e=.returned (Zg r)/\Zz w w'/\r<=left/\(0<=r->k.B.length<=1048576/\r<=left -k.B.length):=by
 have c:Below w.heap.size w (w.alloc (.cells #[.string k.sum,Zg k.born,.string k.M,.slice a k.B.length cap] 152)):=Zy;have i:=l;unfold maxLen at i;by_cases hn:left<k.sum.size
 .go_enter func87,ntmps87;go_wp2;go_ret;exact⟨_,rfl,c,Yw,fun h=>by omega⟩
 .go_enter func87,ntmps87;go_wp2_with fail;refine(TF k.M a cap k.B _ _ (b.j c) p n o Yw Yw).mono ?_;rintro e v ⟨r,rfl,j,u,g⟩;have f:=c.trans (j.mono Yv);by_cases h3:r<0
  .go_wp2;go_ret;exact⟨_,rfl,f,Yw,fun h=>by omega⟩
  .go_wp2;go_ret;exact⟨_,rfl,f,Yw,fun h=>⟨(g Yw).1,by have:=(g Yw).2;omega⟩⟩
theorem TG(a:Zk)(cap:Nat)(ks:List Kd)(left:Int)(w:Zh)(o:By w w.heap.size a ks)(p:Ou ks)(Z:0<=left)(h2:left<=1048576):
 Calls prog 37 #[.slice a ks.length cap,Zg left] w fun e w'=>∃r:Int,e=.returned (Zg r)/\Zz w w'/\r<=left/\(0<=r->ks.length<=1048576/\(∀k∈ks,k.B.length<=1048576)/\(AF ks:Int)<=1048576):=by
 have F:=p.len;unfold maxLen at F;by_cases hn:left<ks.length
 .go_enter func37,ntmps37;go_wp2;go_ret;exact⟨_,rfl,Below.refl _ _,Yw,fun h=>by omega⟩
 .go_enter func37,ntmps37;go_wp2
  go_loopw [1,5] (fun l i wr=>∃(k:Nat) (L:Int),k<=ks.length/\i=Zg k/\l=Zg L/\0<=L/\L<=left -AF (ks.take k)/\Zz w wr/\Hid (∀j,j<k->∀x,ks[j]?=some x->x.B.length<=1048576)) (fun _ i _=>ks.length -(intOf i).toNat)
  case atStart=>exact⟨0,_,Nat.zero_le _,rfl,rfl,Yw,by simp[AF];omega,Below.refl _ _,fun j h=>by omega⟩
  case round=>
   obtain⟨k,L,hk,rfl,rfl,D,J,c,g⟩:=hrel;by_cases hlt:k<ks.length
   .obtain⟨b,W,K,M,A⟩:=o.at hlt;subst K;have q:=Zv hlt;have f:=List.getElem_mem hlt;obtain⟨X,Y,c2,ra,T,c3,s⟩:=(A k _ q).below c M;have Q:=p.sum _ f;have R:=p.M _ f;have S:=p.B _ f;have C:=p.ref _ f;have I:=Yx q;have V:=IV q;clear A o p f q;generalize ks[k]=x at *
    have n:=VC x ra T L wr (s.mono c.size) Q R S C D Yw;have H:=Yx n;clear n C s;go_wp2_with fail;refine Calls.mono H.o ?_;rintro e w1 ⟨r,rfl,E,hr,t⟩;have z:=c.trans (E.mono c.size);by_cases h3:r<0
    .go_wp2;go_ret;exact⟨_,rfl,z,Yw,fun h=>by omega⟩
    .have G:Hid (∀j,j<k+1->∀x,ks[j]?=some x->x.B.length<=1048576):=by
      intro j B y u;rcases Nat.lt_or_ge j k with v|v
      .exact g j v y u
      .obtain rfl:j=k:=Yw
       rw[I.o]at u;cases u;exact(t Yw).1
     have U:=(t Yw).2;clear t g;go_wp2;exact⟨⟨k+1,_,Yw,Yp,rfl,Yw,Yw,z,G⟩,by simp[intOf];omega⟩
   .go_wp2;go_ret;refine⟨_,rfl,c,Yw,fun _=>⟨Yw,fun x N=> ?_,by rw[Zt Yw]at J;omega⟩⟩;obtain⟨j,B,rfl⟩:=List.getElem_of_mem N;exact g j Yw _ (Zv B)
theorem TH(wd now given births:Int)(a p l:Zk)(j o n:Nat)(ks:List Kd)(ps:List Pd)(ls:List Ld)(left:Int)(w:Zh)(b:BI w w.heap.size a p l ks ps ls)(y:Ou ks)(A:Ov ps)(z:Ow ls)(J:0<=left)(K:left<=1048576):
 Calls prog 14 #[.agg (Yi wd now given births a ks.length j p ps.length o l ls.length n),Zg left] w fun e w'=>∃r:Int,e=.returned (Zg r)/\Zz w w'/\r<=left/\(0<=r->Rw ks ps ls/\AF ks<=1048576):=by
 have s:Below w.heap.size w (w.alloc (.cells (Yi wd now given births a ks.length j p ps.length o l ls.length n) 29)):=Zy;have B:=AZ.new w wd now given births (.slice a ks.length j) (.slice p ps.length o) (.slice l ls.length n) 29;go_enter func14,ntmps14;go_wp2_with fail;refine(TG a j ks _ _ (b.j s).k y Yw Yw).mono ?_;rintro e Q ⟨r,rfl,f,M,i⟩;have k:=s.trans (f.mono Yv)
 obtain⟨_,_,_,_,_,E,t,F⟩:=B.below f;have N:=f.size;clear f;by_cases h3:r<0
 .go_wp2;go_ret;exact⟨_,rfl,k,Yw,fun h=>by omega⟩
 .go_wp2_with fail;refine(Rv p o ps _ _ (b.j k).p A Yw Yw).mono ?_;rintro e R ⟨C,rfl,g,G,v⟩;have c:=k.trans (g.mono k.size);replace t:=(g.cell (p:=⟨w.heap.size,6,none⟩) F).trans t;have I:=g.size;clear g E;by_cases h4:C<0
  .go_wp2;go_ret;exact⟨_,rfl,c,Yw,fun h=>by omega⟩
  .go_wp2_with fail;refine(Ox l n ls _ _ (b.j c).l z Yw Yw).mono ?_;rintro e S ⟨D,rfl,u,H,x⟩;have q:=c.trans (u.mono c.size);by_cases h5:D<0
   .go_wp2;go_ret;exact⟨_,rfl,q,Yw,fun h=>by omega⟩
   .go_wp2;go_ret;exact⟨_,rfl,q,Yw,fun _=>⟨⟨(i Yw).1,(i Yw).2.1,v Yw,x Yw⟩,by have:=(i Yw).2.2;omega⟩⟩
def BR(w w':Zh):Prop:=∀b o,(w.cell? (Ze b o)).isSome=true->(w'.cell? (Ze b o)).isSome=true/\(w.frozen? ⟨b,o,none⟩=false->w'.frozen? ⟨b,o,none⟩=false)
theorem BR.refl(w:Zh):BR w w:=fun _ _ h=>⟨h,fun h=>h⟩
theorem BR.trans{a c:Zh}(e:BR a b)(f:BR b c):BR a c:=fun p o h=>⟨(f p o (e p o h).1).1,fun g=>(f p o (e p o h).1).2 ((e p o h).2 g)⟩
theorem BR.bk(h:Zz w w'):BR w w':=fun b o c=>by obtain⟨v,e⟩:=Option.isSome_iff_exists.1 c;have a:=World.block_lt_of_cell? w ⟨b,o,none⟩ e;rw[h.cell (p:=⟨b,o,none⟩) a,h.frozen (p:=⟨b,o,none⟩) a];exact⟨c,fun h=>h⟩
theorem BR.setCell(w:Zh)(g p:Nat)(v:Value):BR w (w.setCell ⟨g,p,none⟩ v):=fun b o a=>by
 refine⟨?_,fun h=>by simpa [go_sem]using h⟩;by_cases e:(⟨b,o,none⟩:Addr)=⟨g,p,none⟩
 .rw[<-e,World.cell?_setCell_same' _ _ _ a];rfl
 .rw[World.cell?_setCell_other _ _ _ _ (fun c=>e c.symm)];exact a
def Wr(w:Zh)(q n:Nat):Prop:=∀j,j<n->(w.cell? (Ze q j)).isSome=true/\w.frozen? ⟨q,j,none⟩=false
theorem Wr.alive(h:Wr w q n)(b:BR w w'):Wr w' q n:=fun j a=>⟨(b q j (h j a).1).1,(b q j (h j a).1).2 (h j a).2⟩
theorem Wr.at(h:Wr w q n)(a:j<n):∃v,w.cell? (Ze q j)=some v:=Option.isSome_iff_exists.1 (h j a).1
theorem Wr.own(h:w.ownsRow base e size (Za g n cap) n a):Wr w g (n *size):=fun j b=>by have c:=h.1;refine⟨?_,h.frozenAt j⟩;rw[h.cellAt j Yw,Zv Yw];rfl
theorem JG(w:Zh)(g p:Nat)(v:Value):w.grownBy (w.setCell (Ze g p) v) (some g):=
 ⟨rfl,rfl,rfl,Yv,fun i _ a=>Below.heap_setCell _ _ _ _ (fun e=>a (by rw[e]))⟩
theorem CD(K:Nat)(z:Int)(w:Zh)(c:z=K)(b:1<=K)(a:K<=1000000000):
 Calls prog 83 #[Zg z] w fun e w'=>e=.returned (.string (BY K))/\Zz w w':=by
 subst c;exact FH K w b a
def MY(w wr:Zh)(g n:Nat):Prop:=Wr wr g n/\w.grownBy wr (some g)/\BR w wr
theorem MY.new(h:Wr w g n):MY w w g n:=⟨h,Ee _ _,BR.refl _⟩
theorem MY.below(h:MY w wr g n)(a:Zz wr b):MY w b g n:=
 ⟨h.1.alive (BR.bk a),Aw h.2.1 (Aq _ a),h.2.2.trans (BR.bk a)⟩
theorem MY.set(h:MY w wr g n)(o:Nat)(v:Value):MY w (wr.setCell (Ze g o) v) g n:=
 ⟨h.1.alive (BR.setCell _ _ _ _),Aw h.2.1 (JG _ _ _ _),h.2.2.trans (BR.setCell _ _ _ _)⟩
structure JH (w wr:Zh) (lo N g:Nat) (ks:List Kd):Prop where
 row:Wr wr g (ks.length *4)
 br:Below lo w wr
 al:BR w wr
 co:∀k,N<=k->k<w.heap.size->wr.heap[k]?=w.heap[k]?
 B:∀i x,ks[i]?=some x->∃q c,wr.cell? (Ze g (i *4+3))=some (.slice (some ⟨q,0,none⟩) x.B.length c)/\g<q/\q<N/\Wr wr q x.B.length
theorem JH.new{a:Zh}{lo:Nat}(h:EY a lo g ks)(c:Zz a w):JH w w lo a.heap.size g ks:=by obtain⟨o,e,l,_⟩:=h;have k:=(e.lt g rfl).2;refine⟨(Wr.own e).alive (BR.bk c),Below.refl _ _,BR.refl _,fun _ _ _=>rfl,fun i x f=> ?_⟩;have n:=(Zw f).1;obtain⟨_,_,_,q,j,b⟩:=l i x f;refine⟨q,_,(c.cell (p:=⟨g,i *4+3,none⟩) k).trans ((e.cellAt _ Yw).trans j),(World.ownsRow.lt b q rfl).1,(World.ownsRow.lt b q rfl).2,?_⟩;have:=(Wr.own b).alive (BR.bk c);rwa[Nat.mul_one]at this
theorem JH.below{f:Zh}{lo:Nat}(h:JH w wr lo N g ks)(dj:lo<=wr.heap.size)(a:Zz wr f):JH w f lo N g ks:=
 ⟨h.row.alive (BR.bk a),h.br.trans (a.mono dj),h.al.trans (BR.bk a),fun k b e=>(a.block k (Zr e h.br.size)).trans (h.co k b e),fun i x n=>by
  obtain⟨q,c,b,e,j,l⟩:=h.B i x n;exact⟨q,c,(a.cell (p:=⟨g,i *4+3,none⟩) (World.block_lt_of_cell? wr ⟨g,i *4+3,none⟩ b)).trans b,e,j,l.alive (BR.bk a)⟩⟩
theorem JH.set{lo:Nat}(h:JH w wr lo N g ks)(dj:lo<=g)(o:g<N)(j c:Nat)(r:c<=2)(v:Value):JH w (wr.setCell (Ze g (j *4+c)) v) lo N g ks:=
 ⟨h.row.alive (BR.setCell _ _ _ _),h.br.setCell (p:=⟨g,j *4+c,none⟩) (by simpa using dj) _,h.al.trans (BR.setCell _ _ _ _),fun k b a=>((JG wr g (j *4+c) v).block k (Zr a h.br.size) (by intro e;cases e;omega)).trans (h.co k b a),fun i x n=>by
  obtain⟨q,d,b,a,f,l⟩:=h.B i x n;refine⟨q,d,?_,a,f,l.alive (BR.setCell _ _ _ _)⟩;rw[World.cell?_setCell_other _ _ _ _ (by intro e;injection e;omega)];exact b⟩
theorem JH.grown{j:Zh}{lo:Nat}(h:JH w wr lo N g ks)(dj:lo<=wr.heap.size)(f:wr.grownBy j (some q))(c:BR wr j)(u:g<q)(s:q<N)(t:lo<=g):JH w j lo N g ks:=
 ⟨h.row.alive c,h.br.grown f dj (fun k o=>by cases o;omega),h.al.trans c,fun k b a=>(f.block k (Zr a h.br.size) (by intro e;cases e;omega)).trans (h.co k b a),fun i x p=>by
  obtain⟨r,d,b,a,l,n⟩:=h.B i x p;exact⟨r,d,f.cell b Yu,a,l,n.alive c⟩⟩
def Kg(k:Nat)(x:Kd):Kd:=⟨BY k,(k:Int)+1,BY (k+1+1),marks (k+1+1+1) x.B.length⟩
def Cj:Nat->List Kd->List Kd
 |_,[]=>[]
 |k,x::xs=>Kg k x::Cj (k+3+x.B.length) xs
theorem BO:∀(k:Nat) (xs:List Kd),(Cj k xs).length=xs.length
 |_,[]=>rfl
 |k,x::xs=>by simp[Cj,BO _ xs]
theorem LF(x:Kd)(a:List Kd):AF (x::a)=x.B.length+AF a:=by simp[AF]
theorem Hq:∀(k:Nat) (xs ys:List Kd),Cj k (xs++ys)=Cj k xs++Cj (k+xs.length *3+AF xs) ys
 |k,[],ys=>by simp[Cj,AF]
 |k,x::xs,ys=>by simp only[List.cons_append,Cj,Hq _ xs ys];congr 3;rw[LF,List.length_cons];omega
theorem RP(e:ks[j]?=some x):Cj k (ks.take (j+1))++ks.drop (j+1)=(Cj k (ks.take j)++ks.drop j).set j (Kg (k+j *3+AF (ks.take j)) x):=by
 obtain⟨a,rfl⟩:=Zw e;have c:(Cj k (ks.take j)).length=j:=by rw[BO,List.length_take];omega
 have b:(ks.take j).length=j:=by rw[List.length_take];omega
 rw[Zu a,Hq,b,List.set_append_right _ _ Yw,c,Nat.sub_self,List.drop_eq_getElem_cons a,Zp,List.append_assoc];rfl
structure Gc (w:Zh) (base:Nat) (T:Value) (rs:Zj) (ks:List Kd):Prop where
 len:rs.length=ks.length
 aj:w.ownsRow base 99 4 T ks.length (Ab kC (ks.zip rs))
 B:∀(i:Nat) (k:Kd) (r:Value),ks[i]?=some k->rs[i]?=some r->w.ownsRow base 9 1 r k.B.length (k.B.map Value.string)
 nd:(T.ownBlock.toList++rs.filterMap Value.ownBlock).Nodup
theorem TI{f:Value->Option Nat}:∀{rs:Zj},(rs.filterMap f).Nodup->∀{i j:Nat} {a b:Value} {g:Nat},rs[i]?=some a->rs[j]?=some b->f a=some g->f b=some g->i=j
 |[],_,i,_,_,_,_,h,_,_,_=>by simp at h
 |r::rs,h,0,0,_,_,_,_,_,_,_=>rfl
 |r::rs,h,0,j+1,a,b,g,ha,hb,hfa,hfb=>by simp at ha hb;subst ha;rw[List.filterMap_cons_some hfa]at h;exact absurd (List.mem_filterMap.2 ⟨b,Zs hb,hfb⟩) (List.nodup_cons.1 h).1
 |r::rs,h,i+1,0,a,b,g,ha,hb,hfa,hfb=>by simp at ha hb;subst hb;rw[List.filterMap_cons_some hfb]at h;exact absurd (List.mem_filterMap.2 ⟨a,Zs ha,hfa⟩) (List.nodup_cons.1 h).1
 |r::rs,h,i+1,j+1,a,b,g,ha,hb,hfa,hfb=>by
  simp at ha hb;have:(rs.filterMap f).Nodup:=by
   cases hr:f r with
   |none=>rw[List.filterMap_cons_none hr]at h;exact h
   |some q=>rw[List.filterMap_cons_some hr]at h;exact(List.nodup_cons.1 h).2
  rw[TI this ha hb hfa hfb]
theorem OR:∀{zs:List (Kd×Value)} {i:Nat} {x:Kd} {r:Value},zs[i]?=some (x,r)->∀y:Kd,(((Ab kC zs).set (i *4) (.string y.sum)).set (i *4+1) (Zg y.born)).set (i *4+2) (.string y.M)=Ab kC (zs.set i (y,r))
 |[],i,_,_,h,_=>by simp at h
 |z::zs,0,x,r,h,y=>by simp at h;subst h;simp[Ab,kC]
 |z::zs,i+1,x,r,h,y=>by
  have b:zs[i]?=some (x,r):=by simpa using h
  have c:=OR b y;have e:Ab kC (z::zs)=kC z++Ab kC zs:=by simp[Ab]
  have a:Ab kC ((z::zs).set (i+1) (y,r))=kC z++Ab kC (zs.set i (y,r)):=by simp[Ab]
  rw[e,a,<-c,show(i+1) *4=(kC z).length+i *4 by rw[Et];omega];rw[List.set_append_right _ _ Yw,Nat.add_sub_cancel_left,show(kC z).length+i *4+1=(kC z).length+(i *4+1) by omega,List.set_append_right _ _ Yw,Nat.add_sub_cancel_left,show(kC z).length+i *4+2=(kC z).length+(i *4+2) by omega,List.set_append_right _ _ Yw,Nat.add_sub_cancel_left]
theorem YF{y:Kd}{r:Value}(b:a[j]?=some r):(ks.set j y).zip a=(ks.zip a).set j (y,r):=by
 apply List.ext_getElem?;intro i;by_cases hij:i=j
 .subst hij;rcases Nat.lt_or_ge i ks.length with h|h
  .have c:=(Zw b).1;rw[(List.getElem?_zip_eq_some (z:=(y,r))).2 ⟨List.getElem?_set_self h,b⟩,List.getElem?_set_self (by rw[List.length_zip];omega)]
  .rw[List.getElem?_eq_none (by rw[List.length_zip,List.length_set];omega),List.getElem?_eq_none (by rw[List.length_set,List.length_zip];omega)]
 .rw[List.getElem?_set_ne (fun e=>hij e.symm),List.zip_eq_zipWith,List.zip_eq_zipWith,List.getElem?_zipWith,List.getElem?_zipWith,List.getElem?_set_ne (fun e=>hij e.symm)]
theorem TJ(base g cap k:Nat)(p:Zj)(ks:List Kd)(w:Zh)(h:Gc w base (Za g ks.length cap) p ks)(hk:1<=k)(zT:k+ks.length *3+AF ks<=100000000):
 Calls prog 80 #[Za g ks.length cap,Zg k] w fun e w'=>e=.returned (Zg (k+ks.length *3+AF ks:Nat))/\Gc w' base (Za g ks.length cap) p (Cj k ks)/\Tn (g::p.filterMap Value.ownBlock) w w':=by
 have H0:=Yx h;clear h;go_enter func80,ntmps80;go_wp2
 go_loopw [1,5] (fun v i wr=>∃(j K:Nat),j<=ks.length/\i=Zg j/\v=Zg K/\Hid (K=k+j *3+AF (ks.take j))/\Hid (Gc wr base (Za g ks.length cap) p (Cj k (ks.take j)++ks.drop j)/\Tn (g::p.filterMap Value.ownBlock) w wr)) (fun _ i _=>ks.length -(intOf i).toNat)
 case atStart=>exact⟨0,k,Nat.zero_le _,rfl,rfl,(show k=_ by simp[AF]),⟨by simpa [Cj]using H0.o,Tn.of (Below.refl _ _)⟩⟩
 case round=>
  clear H0;obtain⟨j,K,hj,rfl,rfl,HK,V⟩:=hrel;have zM:=GR ks j;by_cases hlt:j<ks.length
  .have zO:(j:Int)<ks.length:=Yw
   have Z:=Zv hlt;have U:=IV Z;have u:=GR ks (j+1);have HS:=Yx (RP (k:=k) Z);have Q:(Cj k (ks.take j)++ks.drop j)[j]?=some ks[j]:=by rw[List.getElem?_append_right (by rw[BO,List.length_take];omega),BO,List.length_take,List.getElem?_drop];rw[show j+(j -min j ks.length)=j by omega];exact Z
   have q:(Cj k (ks.take j)++ks.drop j).length=ks.length:=by rw[List.length_append,BO,List.length_take,List.length_drop];omega
   generalize hLe:Cj k (ks.take j)++ks.drop j=Lj at *
   have n:=HK.o;generalize ks[j]=x at *
   obtain⟨l,W⟩:=V.o;have T:=l.len.trans q;obtain⟨r,a⟩:∃r,p[j]?=some r:=⟨p[j]' Yw,Zv Yw⟩;have S:=l.B j x r Q a;obtain⟨ra,M,rfl⟩:=As S;have G:=l.aj;rw[q]at G;have zE:=(List.getElem?_zip_eq_some (z:=(x,Value.slice ra x.B.length M))).2 ⟨Q,a⟩;have t:=G.1;have E:∀b,(Value.slice ra x.B.length M).ownBlock=some b->b≠g:=fun b I e=>by have:=l.nd;simp only[Value.ownBlock,Option.toList_some,List.cons_append,List.nil_append,List.nodup_cons]at this;exact this.1 (e▸List.mem_filterMap.2 ⟨_,Zs a,I⟩)
   have zJ:=Yx G;have zI:=Yx S;have zG:=Yx (Zn l W);have HZ:=Yx zE;have zR:1<=K:=Yw
   have zS:K+3+x.B.length<=100000000:=Yw
   have HX:Hid (j *4+4<=(Ab kC (Lj.zip p)).length):=by show _<=_;omega
   have zP:=Yx hLe;have zF:=Yx n;have HN:=Yx (Zn U (Zn u q));have HR:=Yx (Zn a T);clear l W G S Z V zE Q hLe n U u q a T t zM;go_wp2_with fail;refine(CD K _ _ rfl Yw Yw).mono ?_;rintro e w2 ⟨rfl,C⟩;have o:=Ae zJ.o C;have t:=HX.o;have c2:∃v,w2.cell? (Ze g (j *4))=some v:=⟨_,(o.cellAt (j *4) Yw).trans (Zv Yw)⟩;obtain⟨v2,c2⟩:=c2
   have c3:∃v,w2.cell? (Ze g (j *4+1))=some v:=⟨_,(o.cellAt (j *4+1) Yw).trans (Zv Yw)⟩;obtain⟨v3,c3⟩:=c3;have ff:=o.frozenAt;have f2:=ff (j *4);have f3:=ff (j *4+1);have Y:=((o.stored (j *4) (.string (BY K))).1.stored (j *4+1) (Zg ((K:Int)+1))).1;have zB:=Yx (Bn (Bn (Ae zI.o C) E (j *4) (.string (BY K))) E (j *4+1) (Zg ((K:Int)+1)))
   have T3:Hid (Tn [g] wr ((w2.setCell (Ze g (j *4)) (.string (BY K))).setCell (Ze g (j *4+1)) (Zg ((K:Int)+1)))):=((Tn.of C).trans (Tn.set w2 g _ _ Yv)).trans (Tn.set _ g _ _ Yv);have H3:=Yx Y;clear o Y C ff t;go_wp2_with fail;refine(CD (K+1+1) _ _ Yw Yw Yw).mono ?_;rintro e N ⟨rfl,D⟩;have H:=Ae H3.o D;have t:=HX.o
   have zN:j *4+4<=((((Ab kC (Lj.zip p)).set (j *4) (.string (BY K))).set (j *4+1) (Zg ((K:Int)+1)))).length:=by simpa using t
   have c4:∃v,N.cell? (Ze g (j *4+2))=some v:=⟨_,(H.cellAt (j *4+2) Yw).trans (Zv Yw)⟩;obtain⟨v4,c4⟩:=c4;have f4:=H.frozenAt (j *4+2);have c5:N.cell? (Ze g (j *4+3))=some (.slice ra x.B.length M):=by rw[H.cellAt (j *4+3) Yw,List.getElem?_set_ne Yw,List.getElem?_set_ne Yw];exact Br Et HZ.o (show 3<4 by decide)
   have h5:=(H.stored (j *4+2) (.string (BY (K+1+1)))).1;rw[OR HZ.o ⟨BY K,(K:Int)+1,BY (K+1+1),marks (K+1+1+1) x.B.length⟩]at h5;have zH:=Yx (Bn (Ae zB.o D) E (j *4+2) (.string (BY (K+1+1))));have A:Hid (Tn [g] wr (N.setCell (Ze g (j *4+2)) (.string (BY (K+1+1))))):=(T3.o.trans (Tn.of D)).trans (Tn.set N g _ _ Yv);have H5:=Yx h5;clear H h5 D c2 f2 c3 f3 zB T3 H3 t zN
   have f:=Ti ra x.B.length M (K+1+1+1) base _ (N.setCell (Ze g (j *4+2)) (.string (BY (K+1+1)))) zH.o Yw Yw;rw[show((K+1+1+1:Nat):Int)=(K:Int)+1+1+1 from by omega]at f;have HC:=Yx f;clear f;go_wp2_with fail;refine Calls.mono HC.o ?_;rintro e w6 ⟨rfl,F,c⟩;have HF:=Yx (Zn F c);clear F c HC c4 f4 c5;go_wp2;obtain⟨U,u,q⟩:=HN.o;obtain⟨a,T⟩:=HR.o;have n:=zF.o;obtain⟨l,W⟩:=zG.o
   obtain⟨F,c⟩:=HF.o;have R:=l.nd;simp only[Value.ownBlock,Option.toList_some,List.cons_append,List.nil_append,List.nodup_cons]at R;have zC:∀b,b<wr.heap.size->b≠g->(Value.slice ra x.B.length M).ownBlock≠some b->w6.heap[b]?=wr.heap[b]?:=fun b X o Y=>(c.block b (Zr X A.o.size) (fun e=>Y e.symm)).trans (A.o.block b X (by simpa using o));have zK:Tn (g::p.filterMap Value.ownBlock) wr w6:=by
    refine⟨c.os.trans A.o.os,c.tape.trans A.o.tape,c.output.trans A.o.output,Zm A.o.size c.size,fun b X o=> ?_⟩;refine zC b X (fun e=>o (by simp[e])) (fun e=>o (List.mem_cons_of_mem _ (List.mem_filterMap.2 ⟨_,Zs a,e⟩)))
   refine⟨⟨j+1,K+1+1+1+x.B.length,Yw,Yp,Yp,?_,?_,W.trans zK⟩,by simp[intOf];omega⟩
   .show _=_;omega
   .rw[HS.o,<-n];refine⟨by rw[List.length_set];omega,?_,?_,l.nd⟩
    .rw[List.length_set,q,YF a];exact World.ownsRow.kept H5.o c (.inr (fun e=>E g e.symm rfl))
    .intro i y r' J s;by_cases hij:i=j
     .subst hij;rw[a]at s;cases s;rw[List.getElem?_set_self Yw]at J;cases J;show w6.ownsRow base 9 1 _ (marks (K+1+1+1) x.B.length).length _;rw[BC];exact F
     .rw[List.getElem?_set_ne (fun e=>hij e.symm)]at J;refine Ak (l.B i y r' J s) (fun b I=>zC b (Ac (l.B i y r' J s) I).2 (fun e=>R.1 (e▸List.mem_filterMap.2 ⟨_,Zs s,I⟩)) (fun e=>hij (TI R.2 s a I e)))
  .obtain rfl:j=ks.length:=Yw
   have n:=HK.o;have B:=V.o;rw[Zt (Zx)]at n B;rw[List.drop_of_length_le (Zx),List.append_nil]at B;have zA:=Yx B;clear B V;subst n;go_wp2;go_ret;exact⟨rfl,zA.o.1,zA.o.2⟩
end Go.Proofs.YtcankpdbabaacaaGreatDoor
