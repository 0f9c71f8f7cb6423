import Derived.Test.YtdgblkklkaklhaaGreatDoorX07
set_option maxRecDepth 100000
set_option maxHeartbeats 16000000
namespace Go.Proofs.YtdgblkklkaklhaaGreatDoor
open Go.ChangeShapes Go.WideShapes Go.ChangeAt Go.RowKit _root_.Go.Proofs.Tryz
section
def NS(w:Zh)(b:Nat):Prop:=∀cur fz,w.heap[b]?≠some (.cells cur 9 fz)
theorem De.move{w w':Zh}{base:Nat}{U V j:List Nat}{a:Zk}{o:Zl}(h:De w base V a o)(l:Tn U w w')(t:∀b∈U,b∈V∨(base<=b/\NS w b))(u:∀b∈j,b∈V∨w.heap.size<=b)(y:j[1]?=V[1]?:=by rfl):De w' base j a o:=by
 rcases h with h|⟨b,g,v,k,n,c,x⟩
 ·exact .inl h
 ·have q:b∉U:=fun e=>by
   rcases t b e with e|⟨A,r⟩
   ·exact n e
   ·rcases c with c|⟨_,p,c⟩
    ·omega
    ·exact r p _ c
  have f:=l.block b k q;refine .inr ⟨b,g,v,Zr k l.size,fun e=> ?_,(by rw[f];unfold QD;rw[y];exact c),fun i s z=>(World.cell?_of_block (a:=⟨b,g+i,none⟩) f).trans (x i s z)⟩;rcases u b e with e|e
  ·exact n e
  ·omega
theorem De.low{w:Zh}{base:Nat}{V:List Nat}{a:Zk}{c:Zl}(h:Ad w base a c)(i:∀b∈V,base<=b)(n:base<=w.heap.size)(l:QD base V):De w base V a c:=by
 rcases h with h|⟨b,g,j,f,k⟩
 ·exact .inl h
 ·exact .inr ⟨b,g,j,by omega,fun e=>by have:=i b e;omega,.inl ⟨f,l⟩,k⟩
theorem BQ.move{w w':Zh}{base:Nat}{U V a:List Nat}{wd:Int}{ks:List Kd}{f:Lit->Option Value}(h:BQ w base V wd ks f)(o:Tn U w w')(j:∀b∈U,b∈V∨(base<=b/\NS w b))(k:∀b∈a,b∈V∨w.heap.size<=b)(l:a[1]?=V[1]?:=by rfl):BQ w' base a wd ks f:=by
 intro s n;rcases h s n with h|⟨u,p,q,c,e,g,i⟩
 ·exact .inl h
 ·exact .inr ⟨u,p,q,c,e,g,i.move o j k l⟩
structure DU (w:Zh) (base d m:Nat) (O P L:Value) (wd now given ae:Int) (ks:List Kd) (ps:List Pd) (ls:List Ld):Prop where
 dr:Dr w base d m O P L wd now given ae ks ps ls
variable {w w':Zh} {base d m:Nat} {O P L:Value} {wd now given ae:Int} {ks:List Kd} {ps:List Pd} {ls:List Ld}
theorem DU.lo(h:DU w base d m O P L wd now given ae ks ps ls):base<=w.heap.size:=by have:=h.dr.bd;have:=h.dr.box.lt;omega
theorem DU.an{V:List Nat}(h:DU w base d m O P L wd now given ae ks ps ls)(k:Tn V w w')(j:∀b∈V,base<=b/\b∉vB d m O P L/\NS w b):DU w' base d m O P L wd now given ae ks ps ls:=by
 have l:=h.dr.cg;have i:∀b∈vB d m O P L,w'.heap[b]?=w.heap[b]?:=fun b a=>k.block b (l b a) (fun e=>(j b e).2.1 a);obtain⟨n,f,o,p,q⟩:=h.dr.map;have h:=h.dr
 exact⟨⟨Aa.same h.box (i d (by simp[vB])),⟨n,f,o,AV.same p (i m (by simp[vB])),q.move k (fun b a=> .inr ⟨(j b a).1,(j b a).2.2⟩) (fun b a=> .inl a)⟩,Ai h.ord (fun g c=>i g (by simp[vB,c])),Ai h.ci (fun g c=>i g (by simp[vB,c])),Ai h.ck (fun g c=>i g (by simp[vB,c])),h.bd,h.bm,h.ap⟩⟩
theorem DU.below(h:DU w base d m O P L wd now given ae ks ps ls)(a:Zz w w'):DU w' base d m O P L wd now given ae ks ps ls:=
 h.an (V:=[]) (Tn.of a) (by simp)
theorem We{d m n:Nat}{O P L a:Option Nat}(h:(d::m::(O.toList++(P.toList++L.toList))).Nodup)(e:∀b∈d::m::(O.toList++(P.toList++L.toList)),b<n)(c:a=L∨∃g,a=some g/\n<=g):(d::m::(O.toList++(P.toList++a.toList))).Nodup:=by
 rcases c with rfl|⟨g,rfl,f⟩
 ·exact h
 ·cases O<;>cases P<;>cases L<;>simp_all<;>grind
theorem Wf{d m n:Nat}{O P L a:Option Nat}(h:(d::m::(O.toList++(P.toList++L.toList))).Nodup)(e:∀b∈d::m::(O.toList++(P.toList++L.toList)),b<n)(c:a=P∨∃g,a=some g/\n<=g):(d::m::(O.toList++(a.toList++L.toList))).Nodup:=by
 rcases c with rfl|⟨g,rfl,f⟩
 ·exact h
 ·cases O<;>cases P<;>cases L<;>simp_all<;>grind
theorem CZ{d m:Nat}{O P L:Option Nat}(h:(d::m::(O.toList++(P.toList++L.toList))).Nodup):d≠m/\(∀g,O=some g->g≠d/\g≠m/\P≠some g/\L≠some g)/\(∀g,P=some g->g≠d/\g≠m/\L≠some g)/\(∀g,L=some g->g≠d/\g≠m):=by cases O<;>cases P<;>cases L<;>simp_all<;>grind
theorem DU.gm(h:DU w base d m O P L wd now given ae ks ps ls)(p:Tn (d::L.ownBlock.toList) w w'){k:Value}{o:List Ld}{j a:Int}(q:Aa w' d [Zg wd,.map (some m),Zg j,Zg a,Zg ae,O,P,k])(z:w'.ownsRow base 139 3 k o.length (Ab lC o))(c:k.ownBlock=L.ownBlock∨∃g,k.ownBlock=some g/\w.heap.size<=g):DU w' base d m O P k wd j a ae ks ps o:=by
 obtain⟨u,r,s,v⟩:=CZ h.dr.ap;obtain⟨n,f,A,t,B⟩:=h.dr.map;have x:∀b∈d::L.ownBlock.toList,b∈vB d m O P L:=by
  intro b c;unfold vB;rcases List.mem_cons.1 c with rfl|c
  ·simp
  ·simp only[List.mem_cons,List.mem_append];exact .inr (.inr (.inr (.inr c)))
 have y:∀b∈vB d m O P k,b∈vB d m O P L∨w.heap.size<=b:=by
  intro b l;unfold vB at l ⊢;simp only[List.mem_cons,List.mem_append]at l ⊢;rcases l with e|e|e|e|e
  ·exact .inl (.inl e)
  ·exact .inl (.inr (.inl e))
  ·exact .inl (.inr (.inr (.inl e)))
  ·exact .inl (.inr (.inr (.inr (.inl e))))
  ·rcases c with c|⟨g,i,C⟩
   ·rw[c]at e;exact .inl (.inr (.inr (.inr (.inr e))))
   ·rw[i]at e;simp at e;exact .inr (by omega)
 refine⟨⟨q,⟨n,f,A,AV.same t (p.block m t.lt (fun e=> ?_)),B.move p (fun b c=> .inl (x b c)) y⟩,Ai h.dr.ord (fun g i=>p.block g (Ac h.dr.ord i).2 (fun e=> ?_)),Ai h.dr.ci (fun g i=>p.block g (Ac h.dr.ci i).2 (fun e=> ?_)),z,h.dr.bd,h.dr.bm,We h.dr.ap h.dr.cg c⟩⟩
 ·rcases List.mem_cons.1 e with e|e
  ·exact u e.symm
  ·exact(v m (by simpa using e)).2 rfl
 ·rcases List.mem_cons.1 e with e|e
  ·exact(r g i).1 e
  ·exact(r g i).2.2.2 (by simpa using e)
 ·rcases List.mem_cons.1 e with e|e
  ·exact(s g i).1 e
  ·exact(s g i).2.2 (by simpa using e)
theorem DU.gn(h:DU w base d m O P L wd now given ae ks ps ls)(l:Tn (d::P.ownBlock.toList) w w'){i:Value}{k:List Pd}(o:Aa w' d [Zg wd,.map (some m),Zg now,Zg given,Zg ae,O,i,L])(x:w'.ownsRow base 137 2 i k.length (Ab pC k))(a:i.ownBlock=P.ownBlock∨∃g,i.ownBlock=some g/\w.heap.size<=g):DU w' base d m O i L wd now given ae ks k ls:=by
 obtain⟨s,p,q,t⟩:=CZ h.dr.ap;obtain⟨n,f,y,r,z⟩:=h.dr.map;have u:∀b∈d::P.ownBlock.toList,b∈vB d m O P L:=by
  intro b a;unfold vB;rcases List.mem_cons.1 a with rfl|a
  ·simp
  ·simp only[List.mem_cons,List.mem_append];exact .inr (.inr (.inr (.inl a)))
 have v:∀b∈vB d m O i L,b∈vB d m O P L∨w.heap.size<=b:=by
  intro b j;unfold vB at j ⊢;simp only[List.mem_cons,List.mem_append]at j ⊢;rcases j with e|e|e|e|e
  ·exact .inl (.inl e)
  ·exact .inl (.inr (.inl e))
  ·exact .inl (.inr (.inr (.inl e)))
  ·rcases a with a|⟨g,c,A⟩
   ·rw[a]at e;exact .inl (.inr (.inr (.inr (.inl e))))
   ·rw[c]at e;simp at e;exact .inr (by omega)
  ·exact .inl (.inr (.inr (.inr (.inr e))))
 refine⟨⟨o,⟨n,f,y,AV.same r (l.block m r.lt (fun e=> ?_)),z.move l (fun b a=> .inl (u b a)) v⟩,Ai h.dr.ord (fun g c=>l.block g (Ac h.dr.ord c).2 (fun e=> ?_)),x,Ai h.dr.ck (fun g c=>l.block g (Ac h.dr.ck c).2 (fun e=> ?_)),h.dr.bd,h.dr.bm,Wf h.dr.ap h.dr.cg a⟩⟩
 ·rcases List.mem_cons.1 e with e|e
  ·exact s e.symm
  ·exact(q m (by simpa using e)).2.1 rfl
 ·rcases List.mem_cons.1 e with e|e
  ·exact(p g c).1 e
  ·exact(p g c).2.2.1 (by simpa using e)
 ·rcases List.mem_cons.1 e with e|e
  ·exact(t g c).1 e
  ·exact(q g (by simpa using e)).2.2 c
theorem Hz{A:Type}(c:A->Zj)(a b:List A):Ab c (a++b)=Ab c a++Ab c b:=by unfold Ab;simp
theorem GO{a b:Int}(f:0<=a)(c:a<=1000000000)(g:0<=b)(e:b<=1000000000):IntKind.i64.wrap (a+b)=a+b:=by simp[IntKind.wrap,IntKind.bits,IntKind.signed];omega
theorem Nj(w:Zh)(base:Nat)(v:Value)(ls:List Ld)(t:w.ownsRow base 139 3 v ls.length (Ab lC ls))(x:Ld)(s:ls.length<=1000000)(h:base<=w.heap.size)(i:TypeId):
 ∃g a w',(Builtin.append_ #[38,38] i #[v,Za w.heap.size 1 1]).run prog (w.alloc (.cells #[Zg x.num,.string x.sum,Zg x.bf] 139))=.ok (Za g (ls.length+1) a) w'/\w'.ownsRow base 139 3 (Za g (ls.length+1) a) (ls++[x]).length (Ab lC (ls++[x]))/\w.grownBy w' v.ownBlock/\(v.ownBlock=some g∨g=w.heap.size+1):=by
 obtain⟨z,r,l,n,o⟩:=info_parts Gc;have k:=Ae t ((Below.refl _ _).alloc (Zx) (.cells #[Zg x.num,.string x.sum,Zg x.bf] 139));have q:∀j u,(Ab lC [x])[j]?=some u->(w.alloc (.cells #[Zg x.num,.string x.sum,Zg x.bf] 139)).cell? ((⟨w.heap.size,0,none⟩:Addr).add j)=some u:=by intro j u c;rw[Go.WideShapes.add_plain,Nat.zero_add];exact(Aa.new w [Zg x.num,.string x.sum,Zg x.bf] 139 j u (by simpa [Ab,lC]using c)).1
 obtain⟨A,w',y,f,p,_,b⟩:=run_append_own_at (P:=prog) (w.alloc (.cells #[Zg x.num,.string x.sum,Zg x.bf] 139)) base 38 i 139 z _ 3 32 underlying38 r l n o rfl (by decide) v ls.length (Ab lC ls) k ⟨w.heap.size,0,none⟩ 1 1 (Ab lC [x]) (by simp[Ab,lC]) q (by intro u c;simp[Ab,lC]at c;rcases c with rfl|rfl|rfl<;>rfl) (by unfold maxLen;omega) (by omega) (by simp;omega)
 obtain⟨g,a,rfl,_,_⟩:=Cf f (fun e=>by subst e;rcases f.2 with⟨_,s⟩|⟨_,_,_,e,_⟩<;>first|omega|cases e);refine⟨g,a,w',y,?_,(World.grownBy_alloc w _ _).trans p,?_⟩
 ·rw[Hz,List.length_append];exact f
 ·rcases b with b|b
  ·exact .inl b.symm
  ·right;simpa [Value.ownBlock]using b
theorem NJ(base d m:Nat)(O P L:Value)(wd now given ae:Int)(ks:List Kd)(ps:List Pd)(ls:List Ld)(s:Zi)(a:Int)(w:Zh)(h:DU w base d m O P L wd now given ae ks ps ls)(J:∀k∈ks,(k.sum.size:Int)=wd)(K:Ax ks s)(hl:ls.length<200)(zH:0<=given)(zI:given<1000000000)(zC:0<=now)(zE:now<=1000000000)(zF:0<=a)(zG:a<=1000000000):
 Calls prog 174 #[Yz d,.string s,Zg a] w fun e w'=>e=.returned (Zg (given+1))/\∃M,DU w' base d m O P M wd now (given+1) ae ks ps (ls++[⟨given+1,s,now+a⟩])/\Tn (d::L.ownBlock.toList) w w':=by
 have HN:=Yx (Em base d m O P L wd now given ae ks ps ls s w h.dr J K);have Q:Hid (DU w base d m O P L wd now given ae ks ps ls):=h;have zK:((ls.length:Int)==200)=false:=by simp;omega
 have zJ:(given==1000000000)=false:=by simp;omega
 clear h J K;go_enter func174,ntmps174;go_wp2_with fail;refine Calls.mono HN.o ?_;rintro e q ⟨rfl,y⟩;have j:=Q.o.below y;obtain⟨l,i,Z⟩:=As j.dr.ck;subst Z;obtain⟨c2,_⟩:=j.dr.box 2 _ rfl;obtain⟨c3,f3⟩:=j.dr.box 3 _ rfl;obtain⟨c7,_⟩:=j.dr.box 7 _ rfl;obtain⟨X,A⟩:∃X,X=q.setCell (Ze d 3) (Zg (given+1)):=⟨_,rfl⟩;have r:Tn [d] q X:=by rw[A];exact En _ _ _ _
 have o:Aa X d [Zg wd,.map (some m),Zg now,Zg (given+1),Zg ae,O,P,.slice l ls.length i]:=by rw[A];exact j.dr.box.set 3 _
 have x:∀g,(Value.slice l ls.length i).ownBlock=some g->g≠d:=fun g t=>((CZ j.dr.ap).2.2.2 g t).1;have H:X.ownsRow base 139 3 (.slice l ls.length i) ls.length (Ab lC ls):=Ai j.dr.ck (fun g t=>r.block g (Ac j.dr.ck t).2 (by simp;exact x g t));have F:d<X.heap.size:=o.lt;have B:base<=X.heap.size:=Zm j.lo r.size
 obtain⟨f,c,n,p,I,z,G⟩:=Nj X.drew base _ ls (Ae H ((Below.refl _ _).drew)) ⟨given+1,s,now+a⟩ (by omega) B 38;dsimp only at p;replace p:(Builtin.append_ #[38,38] 38 #[.slice l ls.length i,Za X.heap.size 1 1]).run prog (X.alloc (.cells #[Zg (given+1),.string s,Zg (now+a)] 139)).drew=.ok (Za f (ls.length+1) c) n:=p;have zM:IntKind.i64.wrap (now+a)=now+a:=GO zC zE zF zG
 have E:Below X.heap.size X (X.drew.alloc (.cells #[Zg (given+1),.string s,Zg (now+a)] 139)):=(Below.refl _ _).drew.alloc (Zx) _;have D:=o.below E;have R:=Yx A;have H1:Hid (DU q base d m O P (.slice l ls.length i) wd now given ae ks ps ls):=j;have V:Hid (Zz w q):=y
 have v:Aa n d [Zg wd,.map (some m),Zg now,Zg (given+1),Zg ae,O,P,.slice l ls.length i]:=Aa.same o (z.block d (by simpa using F) (fun e=>x d e.symm rfl))
 have u:Hid (n.ownsRow base 139 3 (Za f (ls.length+1) c) (ls++[(⟨given+1,s,now+a⟩:Ld)]).length (Ab lC (ls++[(⟨given+1,s,now+a⟩:Ld)]))/\X.drew.grownBy n (Value.slice l ls.length i).ownBlock/\((Value.slice l ls.length i).ownBlock=some f∨f=X.drew.heap.size+1)):=⟨I,z,G⟩;have U:Hid (Aa n d [Zg wd,.map (some m),Zg now,Zg (given+1),Zg ae,O,P,.slice l ls.length i]):=v;have C:Hid (Tn [d] q X):=r
 have Y:Hid (d<X.heap.size):=F;clear A j y HN Q r H I z G;go_upto_region 5 with fail;rw[←R.o];clear R c2 c3 c7 f3;obtain⟨c2,c3,c7⟩:=Aa.c3 o 2 3 7;obtain⟨a2,a3,a7⟩:=Aa.c3 D 2 3 7;obtain⟨e7,f7⟩:=v 7 _ rfl;clear o D v E
 go_region_law (first
  |(refine BD (by rfl) (.tmp 36) (.tmp 49) 38 38 (by rfl) (by rfl) (by rfl) p ?_))
 all_goals
  clear p c2 c3 c7 a2 a3 a7;have N:=U.o.set 7 (Za f (ls.length+1) c);have z3:=(N 3 _ rfl).1;have z7:X.heap.size<=n.heap.size:=by have:=u.o.2.1.size;simpa using this
  have W:Hid (Aa (n.setCell (Ze d 7) (Za f (ls.length+1) c)) d [Zg wd,.map (some m),Zg now,Zg (given+1),Zg ae,O,P,Za f (ls.length+1) c]):=N;clear N;have S:∃M,DU (n.setCell (Ze d 7) (Za f (ls.length+1) c)) base d m O P M wd now (given+1) ae ks ps (ls++[(⟨given+1,s,now+a⟩:Ld)])/\Tn (d::(Value.slice l ls.length i).ownBlock.toList) w (n.setCell (Ze d 7) (Za f (ls.length+1) c)):=by
   have T:Tn (d::(Value.slice l ls.length i).ownBlock.toList) q (n.setCell (Ze d 7) (Za f (ls.length+1) c)):=
    ((C.o.mono (by simp)).trans ((Tn.of ((Below.refl _ _).drew)).trans ((Ct u.o.2.1).mono (fun b hb=>List.mem_cons_of_mem _ hb)))).trans ((En n d 7 _).mono (by simp))
   have zB:∀g,(Za f (ls.length+1) c).ownBlock=some g->g≠d:=fun g t=>by
    obtain rfl:f=g:=by simpa [Value.ownBlock]using t
    rcases u.o.2.2 with e|e
    ·exact x f e
    ·have h1:f=X.heap.size+1:=e;have h2:=Y.o;omega
   have zA:(Za f (ls.length+1) c).ownBlock=(Value.slice l ls.length i).ownBlock∨∃g,(Za f (ls.length+1) c).ownBlock=some g/\q.heap.size<=g:=by
    rcases u.o.2.2 with e|e
    ·exact .inl e.symm
    ·exact .inr ⟨f,rfl,by have h1:f=X.heap.size+1:=e;have:=C.o.size;omega⟩
   exact⟨_,H1.o.gm T W.o (Bk u.o.1 zB 7 _) zA,(Tn.of V.o).trans T⟩
  have HK:=Yx S;clear S;go_wp2;go_ret;exact⟨rfl,HK.o⟩
end
theorem Kh{A:Type}{c:A->Zj}{n:Nat}{e:TypeId}(j:∀x,(c x).length=n){w:Zh}{base g b:Nat}{a:List A}(h:w.ownsRow base e n (Za g a.length b) a.length (Ab c a))(i:Nat)(f:i<=a.length):w.ownsRow base e n (Za g i b) i (Ab c (a.take i)):=by
 refine⟨by rw[Bu j,List.length_take];congr 1;omega,?_⟩;rcases h.2 with⟨e,_⟩|⟨t,l,k,e,r,s,u,o,p,q⟩
 ·cases e
 ·cases e;refine .inr ⟨g,b,k,rfl,r,s,by omega,o,p,?_⟩;rw[←FC j a i f,←q,List.take_take];congr 1;exact(Nat.min_eq_left (Nat.mul_le_mul_right n f)).symm
theorem Wg(w:Zh):(zeroValue 137).run prog w=.ok (.agg #[Zd,Zd]) w:=by kernel_rfl
theorem ME(w:Zh)(k:TypeId)(b o c:Nat)(h:∀j,j<2->(w.cell? (Ze b (o+j))).isSome=true)(i:∀j,j<2->w.frozen? ⟨b,o+j,none⟩=false):
 (Builtin.clear_ #[37] k #[.slice (some ⟨b,o,none⟩) 1 c]).run prog w=.ok (.tuple #[]) (w.setCells b o [Zd,Zd]):=by
 have f:(Builtin.zeroCells (Value.agg #[Zd,Zd]).cells 1).toList=[Zd,Zd]:=by kernel_rfl
 have a:=run_storeCells_cells (P:=prog) b o [Zd,Zd] 0 w (by simpa using h) (by simpa using i) (by intro v e;simp at e;rcases e with rfl|rfl<;>rfl);simp only[Nat.add_zero]at a;have g:=Wg;simp[Builtin.clear_,run_underlying underlying37,g,f,a]
theorem MF(g b i:Nat)(a:List Pd)(w:Zh)(base:Nat)(t:w.ownsRow base 137 2 (Za g a.length b) a.length (Ab pC a))(hl:a.length<=600)(hi:i<a.length):
 Calls prog 206 #[Za g a.length b,Zg i,Zg ((i:Int)+1)] w fun e w'=>e=.returned (Za g (a.length -1) b)/\w'.ownsRow base 137 2 (Za g (a.length -1) b) (a.length -1) (Ab pC (a.eraseIdx i))/\w.grownBy w' (some g):=by
 obtain⟨N,q,W,G,X⟩:=info_parts Gy;have p:a.length<=b/\b<=maxLen:=by
  rcases t.2 with⟨e,_⟩|⟨I,o,D,e,M,B,y,z,J,K⟩
  ·cases e
  ·cases e;exact⟨y,z⟩
 obtain⟨Q,E⟩:=p;unfold maxLen at E;have hcut:=Kh BI t i (by omega);obtain⟨A,hA,f⟩:∃A,(if b=i+1 then some (⟨g,0,none⟩:Addr)else some ⟨g,(i+1) *2,none⟩)=some A/\∀j u,(Ab pC (a.drop (i+1)))[j]?=some u->w.drew.cell? (A.add j)=some u:=by
  by_cases h:b=i+1
  ·refine⟨⟨g,0,none⟩,by rw[if_pos h],fun j u l=> ?_⟩;rw[List.drop_of_length_le (by omega)]at l;simp[Ab]at l
  ·refine⟨⟨g,(i+1) *2,none⟩,by rw[if_neg h],fun j u l=> ?_⟩;rw[Go.WideShapes.add_plain];rw[←EY BI a (i+1) (by omega),List.getElem?_drop]at l;have F:=(Zw l).1;rw[Bu BI]at F;exact(t.cellAt _ (by omega)).trans l
 obtain⟨v,C,c,k⟩:=run_append_fits (P:=prog) w.drew base 37 37 137 N 2 underlying37 q G g i b (Ab pC (a.take i)) hcut A (a.length -(i+1)) (b -(i+1)) (Ab pC (a.drop (i+1))) (by rw[Bu BI,List.length_drop]) f (IT _) (by omega);rw[←Bi,show i+(a.length -(i+1))=a.length -1 by omega]at c;rw[show i+(a.length -(i+1))=a.length -1 by omega]at C;have r:=(List.eraseIdx_eq_take_drop_succ a i).symm;rw[r]at c
 have x:=Yx (Zn c k);clear f c hcut r;go_enter func206,ntmps206;have R:¬((i:Int)==(i:Int)+1)=true:=by simp;omega
 have S:i<=b:=by omega
 have T:(0:Int)<=(i:Int)+1:=by omega
 have U:(i:Int)+1<=(a.length:Int):=by omega
 have V:((i:Int)+1).toNat=i+1:=by omega
 go_upto_region 5 with fail
 go_region_law (first
  |(refine BD (by rfl) (.tmp 22) (.tmp 25) 37 37 (by rfl) (by rfl) (by simp[Act.eval,Act.put]) C ?_))
 all_goals
  have s:∀j,j<2->(v.cell? (Ze g ((a.length -1) *2+j))).isSome=true/\v.frozen? ⟨g,(a.length -1) *2+j,none⟩=false:=fun j n=>by
   obtain⟨c,k⟩:=x.o;rcases c.2 with⟨e,_⟩|⟨I,o,D,e,M,B,y,z,J,K⟩
   ·cases e
   ·cases e;constructor
    ·simp only[World.cell?,B];rw[Array.getElem?_eq_getElem (by omega)];rfl
    ·exact c.frozenAt _
  have H:=ME v 0 g ((a.length -1) *2) (b -(a.length -1)) (fun j n=>(s j n).1) (fun j n=>(s j n).2);have Y:a.length -(a.length -1)=1:=by omega
  have Z:¬b=a.length -1:=by omega
  have e3:a.length -1<=a.length:=by omega
  go_wp2;go_ret;obtain⟨c,k⟩:=x.o;exact⟨rfl,GN _ _ _ c (Zx),Av (CY k) (Cb g _ _ _)⟩
theorem Mc(w:Zh):(zeroValue 139).run prog w=.ok (.agg #[Zf,Zd,Zf]) w:=by kernel_rfl
theorem KG(w:Zh)(k:TypeId)(b o c:Nat)(h:∀j,j<3->(w.cell? (Ze b (o+j))).isSome=true)(i:∀j,j<3->w.frozen? ⟨b,o+j,none⟩=false):
 (Builtin.clear_ #[38] k #[.slice (some ⟨b,o,none⟩) 1 c]).run prog w=.ok (.tuple #[]) (w.setCells b o [Zf,Zd,Zf]):=by
 have f:(Builtin.zeroCells (Value.agg #[Zf,Zd,Zf]).cells 1).toList=[Zf,Zd,Zf]:=by kernel_rfl
 have a:=run_storeCells_cells (P:=prog) b o [Zf,Zd,Zf] 0 w (by simpa using h) (by simpa using i) (by intro v e;simp at e;rcases e with rfl|rfl|rfl<;>rfl);simp only[Nat.add_zero]at a;have g:=Mc;simp[Builtin.clear_,run_underlying underlying38,g,f,a]
theorem KH(g b i:Nat)(a:List Ld)(w:Zh)(base:Nat)(t:w.ownsRow base 139 3 (Za g a.length b) a.length (Ab lC a))(hl:a.length<=600)(hi:i<a.length):
 Calls prog 210 #[Za g a.length b,Zg i,Zg ((i:Int)+1)] w fun e w'=>e=.returned (Za g (a.length -1) b)/\w'.ownsRow base 139 3 (Za g (a.length -1) b) (a.length -1) (Ab lC (a.eraseIdx i))/\w.grownBy w' (some g):=by
 obtain⟨N,q,W,G,X⟩:=info_parts Gc;have p:a.length<=b/\b<=maxLen:=by
  rcases t.2 with⟨e,_⟩|⟨I,o,D,e,M,B,y,z,J,K⟩
  ·cases e
  ·cases e;exact⟨y,z⟩
 obtain⟨Q,E⟩:=p;unfold maxLen at E;have hcut:=Kh Co t i (by omega);obtain⟨A,hA,f⟩:∃A,(if b=i+1 then some (⟨g,0,none⟩:Addr)else some ⟨g,(i+1) *3,none⟩)=some A/\∀j u,(Ab lC (a.drop (i+1)))[j]?=some u->w.drew.cell? (A.add j)=some u:=by
  by_cases h:b=i+1
  ·refine⟨⟨g,0,none⟩,by rw[if_pos h],fun j u l=> ?_⟩;rw[List.drop_of_length_le (by omega)]at l;simp[Ab]at l
  ·refine⟨⟨g,(i+1) *3,none⟩,by rw[if_neg h],fun j u l=> ?_⟩;rw[Go.WideShapes.add_plain];rw[←EY Co a (i+1) (by omega),List.getElem?_drop]at l;have F:=(Zw l).1;rw[Bu Co]at F;exact(t.cellAt _ (by omega)).trans l
 obtain⟨v,C,c,k⟩:=run_append_fits (P:=prog) w.drew base 38 38 139 N 3 underlying38 q G g i b (Ab lC (a.take i)) hcut A (a.length -(i+1)) (b -(i+1)) (Ab lC (a.drop (i+1))) (by rw[Bu Co,List.length_drop]) f (Uk _) (by omega);rw[←Bi,show i+(a.length -(i+1))=a.length -1 by omega]at c;rw[show i+(a.length -(i+1))=a.length -1 by omega]at C;have r:=(List.eraseIdx_eq_take_drop_succ a i).symm;rw[r]at c
 have x:=Yx (Zn c k);clear f c hcut r;go_enter func210,ntmps210;have R:¬((i:Int)==(i:Int)+1)=true:=by simp;omega
 have S:i<=b:=by omega
 have T:(0:Int)<=(i:Int)+1:=by omega
 have U:(i:Int)+1<=(a.length:Int):=by omega
 have V:((i:Int)+1).toNat=i+1:=by omega
 go_upto_region 5 with fail
 go_region_law (first
  |(refine BD (by rfl) (.tmp 22) (.tmp 25) 38 38 (by rfl) (by rfl) (by simp[Act.eval,Act.put]) C ?_))
 all_goals
  have s:∀j,j<3->(v.cell? (Ze g ((a.length -1) *3+j))).isSome=true/\v.frozen? ⟨g,(a.length -1) *3+j,none⟩=false:=fun j n=>by
   obtain⟨c,k⟩:=x.o;rcases c.2 with⟨e,_⟩|⟨I,o,D,e,M,B,y,z,J,K⟩
   ·cases e
   ·cases e;constructor
    ·simp only[World.cell?,B];rw[Array.getElem?_eq_getElem (by omega)];rfl
    ·exact c.frozenAt _
  have H:=KG v 0 g ((a.length -1) *3) (b -(a.length -1)) (fun j n=>(s j n).1) (fun j n=>(s j n).2);have Y:a.length -(a.length -1)=1:=by omega
  have Z:¬b=a.length -1:=by omega
  have e3:a.length -1<=a.length:=by omega
  go_wp2;go_ret;obtain⟨c,k⟩:=x.o;exact⟨rfl,GN _ _ _ c (Zx),Av (CY k) (Cb g _ _ _)⟩
def Dw(x y:Int):Int:=if x<y then -1 else if y<x then 1 else 0
theorem NK(x y:Int):Dw x y<0↔x<y:=by unfold Dw;split<;>(try split)<;>omega
theorem Md(x y:Int):Dw x y=0↔x=y:=by unfold Dw;split<;>(try split)<;>omega
theorem NL(x:Int)(w:Zh):Calls prog 229 #[Zg x] w fun e w'=>e=.returned (.bool false)/\w'=w:=by
 have a:(x !=x)=false:=by simp
 go_enter func229,ntmps229;go_wp2;go_ret;exact⟨rfl,rfl⟩
theorem Uq(x y:Int)(w:Zh):Calls prog 209 #[Zg x,Zg y] w fun e w'=>e=.returned (Zg (Dw x y))/\w'=w:=by
 go_enter func209,ntmps209;go_wp2_with fail;refine(NL x w).mono ?_;rintro e f ⟨rfl,rfl⟩;go_wp2_with fail;refine(NL y f).mono ?_;rintro e g ⟨rfl,rfl⟩;by_cases h1:x<y
 ·have c:decide (x<y)=true:=by simpa using h1
  have a:Dw x y= -1:=by unfold Dw;rw[if_pos h1]
  clear h1;go_wp2;go_ret;exact⟨by rw[a];rfl,rfl⟩
 ·have c:decide (x<y)=false:=by simpa using h1
  by_cases h2:y<x
  ·have b:decide (y<x)=true:=by simpa using h2
   have a:Dw x y=1:=by unfold Dw;rw[if_neg h1,if_pos h2]
   clear h1 h2;go_wp2;go_ret;exact⟨by rw[a];rfl,rfl⟩
  ·have b:decide (y<x)=false:=by simpa using h2
   have a:Dw x y=0:=by unfold Dw;rw[if_neg h1,if_neg h2]
   clear h1 h2;go_wp2;go_ret;exact⟨by rw[a];rfl,rfl⟩
def Ea(x y:Zi):Int:=if less x y=true then -1 else if x=y then 0 else 1
theorem NM(x y:Zi):Ea x y<0↔less x y=true:=by
 unfold Ea;by_cases h:less x y=true
 ·rw[if_pos h];exact⟨fun _=>h,fun _=>by omega⟩
 ·rw[if_neg h];refine⟨fun e=> ?_,fun e=>absurd e h⟩;split at e<;>omega
theorem Ja(x y:Zi):Ea x y=0↔x=y:=by
 unfold Ea;by_cases h:less x y=true
 ·rw[if_pos h];refine⟨fun e=>by omega,fun e=> ?_⟩;rw[e,Ch]at h;cases h
 ·rw[if_neg h];split
  ·rename_i h2;exact⟨fun _=>h2,fun _=>rfl⟩
  ·rename_i h2;exact⟨fun e=>by omega,fun e=>absurd e h2⟩
theorem NN(x:Zi)(w:Zh):Calls prog 238 #[.string x] w fun e w'=>e=.returned (.bool false)/\w'=w:=by
 have a:(x.toList !=x.toList)=false:=by simp
 go_enter func238,ntmps238;go_wp2;go_ret;exact⟨rfl,rfl⟩
theorem Ur(x y:Zi)(w:Zh):Calls prog 226 #[.string x,.string y] w fun e w'=>e=.returned (Zg (Ea x y))/\w'=w:=by
 go_enter func226,ntmps226;go_wp2_with fail;refine(NN x w).mono ?_;rintro e c ⟨rfl,rfl⟩;go_wp2_with fail;refine(NN y c).mono ?_;rintro e f ⟨rfl,rfl⟩;cases h1:Op.bytesLess x.toList y.toList with
 |true=>
  have a:Hid (Ea x y= -1):=by show _=_;unfold Ea less;rw[if_pos h1]
  go_wp2;go_ret;exact⟨by rw[a.o];rfl,rfl⟩
 |false=>
  by_cases h2:x=y
  ·have a:=Yx ((Ja x y).2 h2);have b:(x.toList==y.toList)=true:=by rw[h2];simp
   clear h2;go_wp2;go_ret;exact⟨by rw[a.o];rfl,rfl⟩
  ·have a:Hid (Ea x y=1):=by show _=_;unfold Ea less;rw[if_neg (by rw[h1];simp),if_neg h2]
   have b:=BP h2;clear h2;go_wp2;go_ret;exact⟨by rw[a.o];rfl,rfl⟩
theorem Me(x:Ld)(n:Int)(w:Zh):Calls prog 208 #[.agg #[Zg x.num,.string x.sum,Zg x.bf],Zg n] w fun e w'=>e=.returned (Zg (Dw x.num n))/\Zz w w':=by have a:∀o,Zz w (w.alloc o):=fun o=>Zy;go_enter func208,ntmps208;go_wp2_with fail;refine(Uq x.num n _).mono ?_;rintro e b ⟨rfl,rfl⟩;go_wp2;go_ret;exact⟨rfl,a _⟩
theorem KI(x:Pd)(n:Zi)(w:Zh):Calls prog 225 #[.agg #[.string x.name,.string x.sum],.string n] w fun e w'=>e=.returned (Zg (Ea x.name n))/\Zz w w':=by have a:∀o,Zz w (w.alloc o):=fun o=>Zy;go_enter func225,ntmps225;go_wp2_with fail;refine(Ur x.name n _).mono ?_;rintro e b ⟨rfl,rfl⟩;go_wp2;go_ret;exact⟨rfl,a _⟩
structure Jb (ls:List Ld) (n:Int) (i:Nat):Prop where
 le:i<=ls.length
 lo:∀j x,j<i->ls[j]?=some x->x.num<n
 hi:∀j x,i<=j->ls[j]?=some x->n<=x.num
theorem Hg(g B:Nat)(ls:List Ld)(n:Int)(w:Zh)(base:Nat)(z:w.ownsRow base 139 3 (Za g ls.length B) ls.length (Ab lC ls))(hl:ls.length<=600)(o:ls.Pairwise (fun a b=>a.num<b.num)):
 Calls prog 207 #[Za g ls.length B,Zg n,.func (.func 208) #[] #[]] w fun e w'=>∃i:Nat,e=.returned (.tuple #[Zg i,.bool (decide (∃x,ls[i]?=some x/\x.num=n))])/\Jb ls n i/\Zz w w':=by
 have W:=(Ac z rfl).2;have Z:=Yx z;have J:Hid (∀(X:Zh),Zz w X->∀k x,ls[k]?=some x->X.cell? (Ze g (k *3))=some (Zg x.num)/\X.cell? (Ze g (k *3+1))=some (.string x.sum)/\X.cell? (Ze g (k *3+2))=some (Zg x.bf)):=fun X S k x A=>by have h:=Ae z S;have hk:=(Zw A).1;have l:∀j,j<3->X.cell? (Ze g (k *3+j))=(lC x)[j]?:=fun j F=>(h.cellAt (k *3+j) (by omega)).trans (Bp Co A F);exact⟨by simpa [lC]using l 0 (by decide),by simpa [lC]using l 1 (by decide),by simpa [lC]using l 2 (by decide)⟩
 have K:=Yx o;clear z o;go_enter func207,ntmps207;have V:=enters_of func208 (by kernel_rfl) rfl;go_wp2
 go_loopw [9,10] (fun i j wr=>∃lo c:Nat,i=Zg lo/\j=Zg c/\lo<=c/\c<=ls.length/\Hid ((∀j x,j<lo->ls[j]?=some x->x.num<n)/\(∀j x,c<=j->ls[j]?=some x->n<=x.num))/\Zz w wr) (fun i j _=>(intOf j).toNat -(intOf i).toNat)
 case atStart=>exact⟨0,ls.length,rfl,rfl,Nat.zero_le _,Zx,⟨fun j x h=>by omega,fun j x h A=>by have:=(Zw A).1;omega⟩,Below.refl _ _⟩
 case round=>
  obtain⟨lo,c,rfl,rfl,Y,C,v,f⟩:=hrel;have D:=f.size;by_cases hlt:lo<c
  ·have u:(lo+c)/2<ls.length:=by omega
   have p:=Yx (Zv u);generalize ls[(lo+c)/2]=x at *
   obtain⟨r0,G,H⟩:=J.o wr f _ _ p.o;go_wp2_with fail;refine(Me x n wr).mono ?_;rintro e U ⟨rfl,t⟩;have r:=f.trans (t.mono D);clear r0 G H;by_cases l:x.num<n
   ·have T:decide (Dw x.num n<0)=true:=by simpa using (NK _ _).2 l
    have s:=Yx l;clear l;generalize Dw x.num n=cv at *
    go_wp2;refine⟨⟨(lo+c)/2+1,c,by go_num,rfl,by omega,C,⟨?_,v.o.2⟩,r⟩,by simp[intOf];omega⟩;intro j y F q;rcases Nat.lt_or_ge j ((lo+c)/2)with h|h
    ·have:=List.pairwise_iff_getElem.1 K.o j ((lo+c)/2) (by omega) u h;obtain⟨_,rfl⟩:=Zw q;obtain⟨_,e⟩:=Zw p.o;rw[e]at this;have R:=s.o;omega
    ·obtain rfl:j=(lo+c)/2:=by omega
     rw[p.o]at q;cases q;exact s.o
   ·have T:decide (Dw x.num n<0)=false:=by simpa using fun e=>l ((NK _ _).1 e)
    have s:=Yx (Int.not_lt.1 l);clear l;generalize Dw x.num n=cv at *
    go_wp2;refine⟨⟨lo,(lo+c)/2,rfl,by go_num,by omega,by omega,⟨v.o.1,?_⟩,r⟩,by simp[intOf];omega⟩;intro j y F q;rcases Nat.lt_or_ge ((lo+c)/2) j with h|h
    ·have M:=(Zw q).1;have:=List.pairwise_iff_getElem.1 K.o ((lo+c)/2) j u M h;obtain⟨_,rfl⟩:=Zw q;obtain⟨_,e⟩:=Zw p.o;rw[e]at this;have R:=s.o;omega
    ·obtain rfl:j=(lo+c)/2:=by omega
     rw[p.o]at q;cases q;exact s.o
  ·obtain rfl:lo=c:=by omega
   have I:Hid (Jb ls n lo):=⟨C,v.o.1,v.o.2⟩;by_cases hn:lo<ls.length
   ·have p:=Yx (Zv hn);generalize ls[lo]=x at *
    obtain⟨r0,G,H⟩:=J.o wr f _ _ p.o;have N:(lo:Int)<ls.length:=by omega
    go_wp2_with fail;refine(Me x n wr).mono ?_;rintro e U ⟨rfl,t⟩;have r:=f.trans (t.mono D);clear r0 G H;have E:Hid (decide (∃y,ls[lo]?=some y/\y.num=n)=(Dw x.num n==0)):=by
     show _=_;rw[p.o];by_cases h:x.num=n
     ·rw[(Md x.num n).2 h];simp[h]
     ·have Q:¬Dw x.num n=0:=fun e=>h ((Md x.num n).1 e);rw[show(Dw x.num n==0)=false by simpa using Q];simp[h]
    generalize Dw x.num n=cv at *
    go_wp2
    go_ret2
    exact⟨lo,by rw[E.o];first|rfl|simp[Act.put],I.o,r⟩
   ·have E:Hid (decide (∃y,ls[lo]?=some y/\y.num=n)=false):=by show _=_;rw[List.getElem?_eq_none (by omega)];simp
    have N:¬((lo:Int)<ls.length):=by omega
    go_wp2
    go_ret2
    exact⟨lo,by rw[E.o];first|rfl|simp[Act.put],I.o,f⟩
structure Dx (ls:List Pd) (n:Zi) (i:Nat):Prop where
 le:i<=ls.length
 lo:∀j x,j<i->ls[j]?=some x->less x.name n=true
 hi:∀j x,i<=j->ls[j]?=some x->less x.name n=false
theorem IL(g B:Nat)(ls:List Pd)(n:Zi)(w:Zh)(base:Nat)(z:w.ownsRow base 137 2 (Za g ls.length B) ls.length (Ab pC ls))(hl:ls.length<=600)(l:ls.Pairwise (fun a b=>less a.name b.name=true)):
 Calls prog 224 #[Za g ls.length B,.string n,.func (.func 225) #[] #[]] w fun e w'=>∃i:Nat,e=.returned (.tuple #[Zg i,.bool (decide (∃x,ls[i]?=some x/\x.name=n))])/\Dx ls n i/\Zz w w':=by
 have V:=(Ac z rfl).2;have Y:=Yx z;have I:Hid (∀(X:Zh),Zz w X->∀k x,ls[k]?=some x->X.cell? (Ze g (k *2))=some (.string x.name)/\X.cell? (Ze g (k *2+1))=some (.string x.sum)):=fun X R k x A=>by have h:=Ae z R;have Z:=(Zw A).1;have o:∀j,j<2->X.cell? (Ze g (k *2+j))=(pC x)[j]?:=fun j F=>(h.cellAt (k *2+j) (by omega)).trans (Bp BI A F);exact⟨by simpa [pC]using o 0 (by decide),by simpa [pC]using o 1 (by decide)⟩
 have J:=Yx l;clear z l;go_enter func224,ntmps224;have U:=enters_of func225 (by kernel_rfl) rfl;go_wp2
 go_loopw [9,10] (fun i j wr=>∃lo c:Nat,i=Zg lo/\j=Zg c/\lo<=c/\c<=ls.length/\Hid ((∀j x,j<lo->ls[j]?=some x->less x.name n=true)/\(∀j x,c<=j->ls[j]?=some x->less x.name n=false))/\Zz w wr) (fun i j _=>(intOf j).toNat -(intOf i).toNat)
 case atStart=>exact⟨0,ls.length,rfl,rfl,Nat.zero_le _,Zx,⟨fun j x h=>by omega,fun j x h A=>by have:=(Zw A).1;omega⟩,Below.refl _ _⟩
 case round=>
  obtain⟨lo,c,rfl,rfl,W,C,v,f⟩:=hrel;have D:=f.size;by_cases hlt:lo<c
  ·have u:(lo+c)/2<ls.length:=by omega
   have p:=Yx (Zv u);generalize ls[(lo+c)/2]=x at *
   obtain⟨r0,G⟩:=I.o wr f _ _ p.o;go_wp2_with fail;refine(KI x n wr).mono ?_;rintro e T ⟨rfl,t⟩;have r:=f.trans (t.mono D);clear r0 G;by_cases o:less x.name n=true
   ·have S:decide (Ea x.name n<0)=true:=by simpa using (NM _ _).2 o
    have s:=Yx o;clear o;generalize Ea x.name n=cv at *
    go_wp2;refine⟨⟨(lo+c)/2+1,c,by go_num,rfl,by omega,C,⟨?_,v.o.2⟩,r⟩,by simp[intOf];omega⟩;intro j y F q;rcases Nat.lt_or_ge j ((lo+c)/2)with h|h
    ·have:=List.pairwise_iff_getElem.1 J.o j ((lo+c)/2) (by omega) u h;obtain⟨_,rfl⟩:=Zw q;obtain⟨_,e⟩:=Zw p.o;rw[e]at this;exact Cl this s.o
    ·obtain rfl:j=(lo+c)/2:=by omega
     rw[p.o]at q;cases q;exact s.o
   ·have S:decide (Ea x.name n<0)=false:=by simpa using fun e=>o ((NM _ _).1 e)
    have s:Hid (less x.name n=false):=by show _=_;simpa using o
    clear o;generalize Ea x.name n=cv at *
    go_wp2;refine⟨⟨lo,(lo+c)/2,rfl,by go_num,by omega,by omega,⟨v.o.1,?_⟩,r⟩,by simp[intOf];omega⟩;intro j y F q;rcases Nat.lt_or_ge ((lo+c)/2) j with h|h
    ·have M:=(Zw q).1;have:=List.pairwise_iff_getElem.1 J.o ((lo+c)/2) j u M h;obtain⟨_,rfl⟩:=Zw q;obtain⟨_,e⟩:=Zw p.o;rw[e]at this;have K:=s.o;cases h':less ls[j].name n with
     |false=>rfl
     |true=>rw[Cl this h']at K;cases K
    ·obtain rfl:j=(lo+c)/2:=by omega
     rw[p.o]at q;cases q;exact s.o
  ·obtain rfl:lo=c:=by omega
   have H:Hid (Dx ls n lo):=⟨C,v.o.1,v.o.2⟩;by_cases hn:lo<ls.length
   ·have p:=Yx (Zv hn);generalize ls[lo]=x at *
    obtain⟨r0,G⟩:=I.o wr f _ _ p.o;have N:(lo:Int)<ls.length:=by omega
    go_wp2_with fail;refine(KI x n wr).mono ?_;rintro e T ⟨rfl,t⟩;have r:=f.trans (t.mono D);clear r0 G;have E:Hid (decide (∃y,ls[lo]?=some y/\y.name=n)=(Ea x.name n==0)):=by
     show _=_;rw[p.o];by_cases h:x.name=n
     ·rw[(Ja x.name n).2 h];simp[h]
     ·have Q:¬Ea x.name n=0:=fun e=>h ((Ja x.name n).1 e);rw[show(Ea x.name n==0)=false by simpa using Q];simp[h]
    generalize Ea x.name n=cv at *
    go_wp2
    go_ret2
    exact⟨lo,by rw[E.o];first|rfl|simp[Act.put],H.o,r⟩
   ·have E:Hid (decide (∃y,ls[lo]?=some y/\y.name=n)=false):=by show _=_;rw[List.getElem?_eq_none (by omega)];simp
    have N:¬((lo:Int)<ls.length):=by omega
    go_wp2
    go_ret2
    exact⟨lo,by rw[E.o];first|rfl|simp[Act.put],H.o,f⟩
theorem Jc{w:Zh}{base:Nat}{e:TypeId}{size:Nat}{v:Value}{n:Nat}{b:Zj}(h:w.ownsRow base e size v n b)(f:0<n):∃g a,v=Za g n a:=by
 rcases h.2 with⟨_,i⟩|⟨g,a,c,rfl,_⟩
 ·omega
 ·exact⟨g,a,rfl⟩
theorem Jb.at{ls:List Ld}{n:Int}{i:Nat}(h:Jb ls n i)(o:∃x∈ls,x.num=n)(c:ls.Pairwise (fun a b=>a.num<b.num)):∃x,ls[i]?=some x/\x.num=n:=by
 obtain⟨x,r,q⟩:=o;obtain⟨j,g⟩:=List.getElem?_of_mem r;have l:=(Zw g).1;have k:i=j:=by
  rcases Nat.lt_trichotomy i j with f|f|f
  ·have s:=h.hi i ls[i] (Zx) (Zv (by omega));have p:=List.pairwise_iff_getElem.1 c i j (by omega) l f;obtain⟨_,e⟩:=Zw g;rw[e]at p;omega
  ·exact f
  ·have:=h.lo j x f g;omega
 exact⟨x,k▸g,q⟩
theorem Dx.at{ls:List Pd}{n:Zi}{i:Nat}(h:Dx ls n i)(r:∃x∈ls,x.name=n)(c:ls.Pairwise (fun a b=>less a.name b.name=true)):∃x,ls[i]?=some x/\x.name=n:=by
 obtain⟨x,s,k⟩:=r;obtain⟨j,g⟩:=List.getElem?_of_mem s;have q:=(Zw g).1;have p:i=j:=by
  rcases Nat.lt_trichotomy i j with f|f|f
  ·have l:=h.hi i ls[i] (Zx) (Zv (by omega));have o:=List.pairwise_iff_getElem.1 c i j (by omega) q f;obtain⟨_,e⟩:=Zw g;rw[e,k]at o;rw[o]at l;cases l
  ·exact f
  ·have:=h.lo j x f g;rw[k,Ch]at this;cases this
 exact⟨x,p▸g,k⟩
def Bo(ls:List Ld)(n:Int):List Ld:=ls.filter (fun x=> !decide (x.num=n))
def AY(ps:List Pd)(n:Zi):List Pd:=ps.filter (fun x=> !decide (x.name=n))
theorem GP{A:Type}{q:A->Bool}:∀{xs:List A} {i:Nat} {x:A},xs[i]?=some x->q x=false->(∀j y,xs[j]?=some y->j≠i->q y=true)->xs.filter q=xs.eraseIdx i
 |[],i,x,hx,_,_=>by simp at hx
 |y::ys,0,x,hx,hq,ho=>by
  simp only[List.getElem?_cons_zero,Option.some.injEq]at hx;subst hx;rw[List.filter_cons,hq,List.eraseIdx_cons_zero];simp only[Bool.false_eq_true,if_false];exact List.filter_eq_self.2 (fun z c=>by
   obtain⟨j,a⟩:=List.getElem?_of_mem c;exact ho (j+1) z (by simpa using a) (by omega))
 |y::ys,i+1,x,hx,hq,ho=>by have b:=ho 0 y (by simp) (by omega);rw[List.filter_cons,b,List.eraseIdx_cons_succ];simp only[if_true];rw[GP (i:=i) (x:=x) (by simpa using hx) hq (fun j z a e=>ho (j+1) z (by simpa using a) (by omega))]
theorem OW{ls:List Ld}{n:Int}{i:Nat}{x:Ld}(g:ls[i]?=some x)(q:x.num=n)(c:ls.Pairwise (fun a b=>a.num<b.num)):Bo ls n=ls.eraseIdx i:=by
 refine GP g (by simp[q]) (fun j y o p=> ?_);have e:=(Zw g).1;have f:=(Zw o).1;obtain⟨_,k⟩:=Zw g;obtain⟨_,l⟩:=Zw o;rcases Nat.lt_or_gt_of_ne p with h|h
 ·have:=List.pairwise_iff_getElem.1 c j i f e h;rw[k,l]at this;simp;omega
 ·have:=List.pairwise_iff_getElem.1 c i j e f h;rw[k,l]at this;simp;omega
theorem NO{ls:List Pd}{n:Zi}{i:Nat}{x:Pd}(o:ls[i]?=some x)(l:x.name=n)(c:ls.Pairwise (fun a b=>less a.name b.name=true)):AY ls n=ls.eraseIdx i:=by
 refine GP o (by simp[l]) (fun j y r s=> ?_);have g:=(Zw o).1;have k:=(Zw r).1;obtain⟨_,p⟩:=Zw o;obtain⟨_,q⟩:=Zw r;have f:y.name≠n:=fun e=>by
  rcases Nat.lt_or_gt_of_ne s with h|h
  ·have:=List.pairwise_iff_getElem.1 c j i k g h;rw[p,q,e,l,Ch]at this;cases this
  ·have:=List.pairwise_iff_getElem.1 c i j g k h;rw[p,q,e,l,Ch]at this;cases this
 simpa using f
theorem Us(base d m:Nat)(O P L:Value)(wd now given ae:Int)(ks:List Kd)(ps:List Pd)(ls:List Ld)(n:Int)(w:Zh)(h:DU w base d m O P L wd now given ae ks ps ls)(W:ls.length<=200)(f:ls.Pairwise (fun a b=>a.num<b.num))(t:∃x∈ls,x.num=n):
 Calls prog 177 #[Yz d,Zg n] w fun e w'=>e=.returned (.tuple #[])/\∃G,DU w' base d m O P G wd now given ae ks ps (Bo ls n)/\Tn (d::L.ownBlock.toList) w w':=by
 have A:0<ls.length:=by obtain⟨x,U,_⟩:=t;exact List.length_pos_of_mem U
 obtain⟨g,j,Q⟩:=Jc h.dr.ck A;subst Q;have H:=Yx h;have q:=Yx f;have B:=Yx t;have I:=Yx (Hg g j ls n w base h.dr.ck (by omega) f);obtain⟨c7,_⟩:=h.dr.box 7 _ rfl;clear h f t;go_enter func177,ntmps177;go_wp2_with fail;refine Calls.mono I.o ?_;rintro e M ⟨i,rfl,F,r⟩;obtain⟨x,p,u⟩:=F.at B.o q.o;have k:decide (∃x,ls[i]?=some x/\x.num=n)=true:=by simpa using ⟨x,p,u⟩
 have C:=(Zw p).1;have R:=Yx (OW p u q.o);have o:=H.o.below r;have l:=Yx o;have N:=Yx r;have z:=Yx (KH g j i ls M base o.dr.ck (by omega) C);obtain⟨T,_⟩:=o.dr.box 7 _ rfl;rw[k];clear k p u F o r H I B q c7;go_wp2_with fail;refine Calls.mono z.o ?_;rintro e y ⟨rfl,E,s⟩;have D:∀b,(Za g (ls.length -1) j).ownBlock=some b->b≠d:=fun b v=>((CZ l.o.dr.ap).2.2.2 b v).1
 have c:=Aa.same l.o.dr.box (s.block d l.o.dr.box.lt (fun e=>D g rfl (Option.some.inj e).symm));obtain⟨V,X⟩:=c 7 _ rfl;have J:∃G,DU (y.setCell (Ze d 7) (Za g (ls.length -1) j)) base d m O P G wd now given ae ks ps (Bo ls n)/\Tn (d::(Za g ls.length j).ownBlock.toList) w (y.setCell (Ze d 7) (Za g (ls.length -1) j)):=by
  have K:Tn (d::(Za g ls.length j).ownBlock.toList) M (y.setCell (Ze d 7) (Za g (ls.length -1) j)):=
   ((Ct s).mono (by intro b v;simp[Value.ownBlock]at v ⊢;exact .inr v)).trans ((En y d 7 _).mono (by simp))
  refine⟨_,l.o.gm K (c.set 7 _) ?_ (.inl rfl),(Tn.of N.o).trans K⟩;rw[R.o,List.length_eraseIdx,if_pos C];exact Bk E D 7 _
 have S:=Yx J;clear J E s c T;go_wp2
 go_end0
 exact⟨rfl,S.o⟩
theorem Jd(base d m:Nat)(O L:Value)(g j:Nat)(wd now given ae:Int)(ks:List Kd)(ps:List Pd)(ls:List Ld)(n:Zi)(w:Zh)(h:DU w base d m O (Za g ps.length j) L wd now given ae ks ps ls)(r:ps.length<=200)(c:ps.Pairwise (fun a b=>less a.name b.name=true)):
 Calls prog 204 #[Yz d,.string n] w fun e w'=>∃i:Nat,e=.returned (.tuple #[Zg i,.bool (decide (∃x,ps[i]?=some x/\x.name=n))])/\Dx ps n i/\Zz w w':=by
 have q:=Yx (IL g j ps n w base h.dr.ci (by omega) c);obtain⟨c6,_⟩:=h.dr.box 6 _ rfl;clear h c;go_enter func204,ntmps204;go_wp2_with fail;refine Calls.mono q.o ?_;rintro e s ⟨i,rfl,p,o⟩;obtain⟨k,f⟩:∃k,decide (∃x,ps[i]?=some x/\x.name=n)=k:=⟨_,rfl⟩;have l:=Yx f;rw[f];clear f;go_wp2
 go_ret2
 exact⟨i,by rw[l.o];rfl,p,o⟩
theorem St(base d m:Nat)(O P L:Value)(wd now given ae:Int)(ks:List Kd)(ps:List Pd)(ls:List Ld)(n:Zi)(w:Zh)(h:DU w base d m O P L wd now given ae ks ps ls)(U:ps.length<=200)(f:ps.Pairwise (fun a b=>less a.name b.name=true))(t:∃x∈ps,x.name=n):
 Calls prog 176 #[Yz d,.string n] w fun e w'=>e=.returned (.tuple #[])/\∃G,DU w' base d m O G L wd now given ae ks (AY ps n) ls/\Tn (d::P.ownBlock.toList) w w':=by
 have A:0<ps.length:=by obtain⟨x,V,_⟩:=t;exact List.length_pos_of_mem V
 obtain⟨g,j,Q⟩:=Jc h.dr.ci A;subst Q;have H:=Yx h;have q:=Yx f;have B:=Yx t;have I:=Yx (Jd base d m O L g j wd now given ae ks ps ls n w h U f);clear h f t;go_enter func176,ntmps176;go_wp2_with fail;refine Calls.mono I.o ?_;rintro e M ⟨i,rfl,F,r⟩;obtain⟨x,p,u⟩:=F.at B.o q.o;have k:decide (∃x,ps[i]?=some x/\x.name=n)=true:=by simpa using ⟨x,p,u⟩
 have C:=(Zw p).1;have R:=Yx (NO p u q.o);have o:=H.o.below r;have l:=Yx o;have N:=Yx r;have z:=Yx (MF g j i ps M base o.dr.ci (by omega) C);obtain⟨T,_⟩:=o.dr.box 6 _ rfl;rw[k];clear k p u F o r H I B q;go_wp2_with fail;refine Calls.mono z.o ?_;rintro e y ⟨rfl,E,s⟩;have D:∀b,(Za g (ps.length -1) j).ownBlock=some b->b≠d:=fun b v=>((CZ l.o.dr.ap).2.2.1 b v).1
 have c:=Aa.same l.o.dr.box (s.block d l.o.dr.box.lt (fun e=>D g rfl (Option.some.inj e).symm));obtain⟨W,X⟩:=c 6 _ rfl;have J:∃G,DU (y.setCell (Ze d 6) (Za g (ps.length -1) j)) base d m O G L wd now given ae ks (AY ps n) ls/\Tn (d::(Za g ps.length j).ownBlock.toList) w (y.setCell (Ze d 6) (Za g (ps.length -1) j)):=by
  have K:Tn (d::(Za g ps.length j).ownBlock.toList) M (y.setCell (Ze d 6) (Za g (ps.length -1) j)):=
   ((Ct s).mono (by intro b v;simp[Value.ownBlock]at v ⊢;exact .inr v)).trans ((En y d 6 _).mono (by simp))
  refine⟨_,l.o.gn K (c.set 6 _) ?_ (.inl rfl),(Tn.of N.o).trans K⟩;rw[R.o,List.length_eraseIdx,if_pos C];exact Bk E D 6 _
 have S:=Yx J;clear J E s c T;go_wp2
 go_end0
 exact⟨rfl,S.o⟩
end Go.Proofs.YtdgblkklkaklhaaGreatDoor
