import Derived.Test.YtlhhpofjkgmbeaaGreatDoorX08
set_option maxRecDepth 100000
set_option maxHeartbeats 16000000
namespace Go.Proofs.YtlhhpofjkgmbeaaGreatDoor
open Go.ChangeShapes Go.WideShapes Go.ChangeAt Go.RowKit _root_.Go.Proofs.Tryz
section
open Go.ChangeShapes Go.WideShapes Go.ChangeAt Go.RowKit Go.Lib
theorem FH:∃i:TypeInfo,prog.info? 190=some i/\i.zero=some (.agg Ck)/\i.size=8/\i.bytes=8:=by obtain⟨e,d,a,b,c⟩:=info_parts JA;exact⟨e,d,a,b,c⟩
theorem HJ{w:Zh}{b:Nat}{x:Zi}(c:w.heap[b]?=some (.cells (Am x).toArray 190 (0,0))):∀j u,(Ab Am [x])[j]?=some u->w.cell? (Ze b j)=some u:=by intro j u a;rw[Ab,List.flatMap_cons,List.flatMap_nil,List.append_nil]at a;simp only[World.cell?,c];rw[←a];simp
theorem MM(P:Value)(a:Zl)(x:Zi)(r:Nat)(w:Zh)(base:Nat)(n:w.ownsRow base 190 8 P a.length (Ab Am a))(G:a.length<=600)(c:base<=w.heap.size)(p:w.heap[r]?=some (.cells (Am x).toArray 190 (0,0))):
 Calls prog 223 #[P,Zg a.length,Za r 1 1] w fun e s=>∃l,e=.returned l/\s.ownsRow base 190 8 l (a.length+1) (Ab Am (a++[x]))/\w.grownBy s P.ownBlock/\(l.ownBlock=P.ownBlock∨l.ownBlock=some w.heap.size):=by
 obtain⟨C,b,f,h,i⟩:=FH;obtain⟨q,s,o,d,m,_,t⟩:=run_append_own_at (P:=prog) w base 155 155 190 C _ 8 8 underlying155 b f h i rfl (by decide) P a.length (Ab Am a) n ⟨r,0,none⟩ 1 1 (Ab Am [x]) (by rw[Bu Ek];rfl) (fun j u B=>by rw[Go.WideShapes.add_plain,Nat.zero_add];exact HJ p j u B) (Dh _) (by unfold maxLen;omega) (by omega) c;rw[←Bi]at d;have k:=Yx (Zn d (Zn m t));clear d m t
 rcases n.2 with⟨e,y⟩|⟨g,v,D,e,F,A,E,d,m,z⟩
 ·subst e;rw[y]at k ⊢;clear n p b f h i;go_enter func223,ntmps223;go_wp2_with (at_builtin;refine Lib.wpList_append_run _ rfl _ _ _ _ rfl _ _ rfl rfl _ _ o ?_);go_ret;exact⟨q,rfl,k.o⟩
 ·subst e;clear n p b f h i A m z;unfold maxLen at d;by_cases hc:v=a.length
  ·subst hc;go_enter func223,ntmps223;go_wp2_with (at_builtin;refine Lib.wpList_append_run _ rfl _ _ _ _ rfl _ _ rfl rfl _ _ o ?_);go_ret;exact⟨q,rfl,k.o⟩
  ·go_enter func223,ntmps223;go_wp2_with (at_builtin;refine Lib.wpList_append_run _ rfl _ _ _ _ rfl _ _ rfl rfl _ _ o ?_);go_ret;exact⟨q,rfl,k.o⟩
theorem KS(g b i:Nat)(a:Zl)(x:Zi)(q:Nat)(w:Zh)(base:Nat)(u:w.ownsRow base 190 8 (Za g a.length b) a.length (Ab Am a))(hl:a.length<=600)(hi:i<a.length)(z:a.length+1<=b)(F:q≠g)(o:w.heap[q]?=some (.cells (Am x).toArray 190 (0,0))):
 Calls prog 223 #[Za g a.length b,Zg i,Za q 1 1] w fun e L=>e=.returned (Za g (a.length+1) b)/\L.ownsRow base 190 8 (Za g (a.length+1) b) (a.length+1) (Ab Am (a.take i++[x]++a.drop i))/\w.grownBy L (some g):=by
 obtain⟨K,d,P,y,Q⟩:=FH;obtain⟨f,A,zC,M,D,N⟩:∃f,w.heap[g]?=some (.cells f 190 (0,0))/\a.length<=b/\b<=maxLen/\f.size=b *8/\f.toList.take (a.length *8)=Ab Am a:=by
  rcases u.2 with⟨e,_⟩|⟨g',R,f,e,hb,A,T,U,V,W⟩
  ·cases e
  ·cases e;exact⟨f,A,T,U,V,W⟩
 have G:=Bu Ek a;have B:(Ab Am [x]).length=8:=by rw[Bu Ek];rfl
 have E:((Ab Am a).drop (i *8)).length=(a.length -i) *8:=by rw[List.length_drop,G];omega
 have c:∀j,j<b *8->(w.cell? (Ze g j)).isSome=true:=fun j l=>by simp only[World.cell?,A];rw[Array.getElem?_eq_getElem (by omega)];rfl
 have O:∀I H,(callFunc 236 #[Za q 1 1,.slice (some ⟨g,(i+1) *8,none⟩) I H]).run prog w=.ok (.value (.bool false)) w:=fun I H=>by
  rw[run_callFunc_extern func236 (by kernel_rfl) (by kernel_rfl) (by kernel_rfl) (e:=Extern.SlicesOverlaps.overlaps #[155,155] #[4]) (by kernel_rfl),
   Lib.run_overlaps_apart w 155 4 190 underlying155 8 (fun w=>by simp[sizeOf,typeInfo,d,y]) ⟨q,0,none⟩ ⟨g,(i+1) *8,none⟩ 1 1 I H F 190 190 ((Am x).toArray:Array Value).size f.size (by simp only[World.shape?,o]) (by simp only[World.shape?,A]) (by rw[D];omega) (by simp only[World.frozen?,o];rfl) (by simp[World.frozen?,o])]
  rfl
 have r:∀p n J,(Builtin.copy_ #[155,155] p #[.slice (some ⟨g,(i+1) *8,none⟩) (a.length+1 -(i+1)) n,.slice (some ⟨g,i *8,none⟩) (a.length+1 -i) J]).run prog w.drew=.ok (goInt (Nat.min (a.length+1 -i) (a.length+1 -(i+1)))) (w.drew.setCells g ((i+1) *8) ((Ab Am a).drop (i *8))):=fun p n J=>
  Cy w.drew 155 155 p 190 K 8 g ((i+1) *8) (a.length+1 -(i+1)) n ⟨g,i *8,none⟩ (a.length+1 -i) J ((Ab Am a).drop (i *8)) underlying155 d y (by rw[E];congr 1;show _=min _ _;omega)
   (fun j v l=>by
     rw[Go.WideShapes.add_plain];rw[List.getElem?_drop]at l;have:=(Zw l).1;exact(u.cellAt _ (by omega)).trans l)
   (fun j l=>c _ (by omega)) (fun j _=>u.frozenAt _) (fun v o=>Dh _ v (List.mem_of_mem_drop o))
 obtain⟨m,k⟩:∃m,m=w.drew.setCells g ((i+1) *8) ((Ab Am a).drop (i *8)):=⟨_,rfl⟩;have C:∀p n,(Builtin.copy_ #[155,155] p #[.slice (some ⟨g,i *8,none⟩) (a.length+1 -i) n,Za q 1 1]).run prog m=.ok (goInt (Nat.min 1 (a.length+1 -i))) (m.setCells g (i *8) (Ab Am [x])):=fun p n=>
  Cy m 155 155 p 190 K 8 g (i *8) (a.length+1 -i) n ⟨q,0,none⟩ 1 1 (Ab Am [x]) underlying155 d y (by rw[B,show Nat.min 1 (a.length+1 -i)=1 from Nat.min_eq_left (by omega),Nat.one_mul])
   (fun j v l=>by
     rw[Go.WideShapes.add_plain,Nat.zero_add,k,World.cell?_setCells_out g _ _ _ _ (fun h _=>absurd h F)];exact HJ o j v l)
   (fun j l=>by rw[k];exact Hj g ((Ab Am a).drop (i *8)) ((i+1) *8) w.drew (fun t ht=>c _ (by omega)) (i *8+j) (c _ (by omega))) (fun j _=>by rw[k,World.frozen?_setCells];exact u.frozenAt _) (Dh _)
 have s:(m.setCells g (i *8) (Ab Am [x])).ownsRow base 190 8 (Za g (a.length+1) b) (a.length+1) (Ab Am (a.take i++[x]++a.drop i))/\w.grownBy (m.setCells g (i *8) (Ab Am [x])) (some g):=by
  refine⟨?_,?_⟩
  ·rw[Bi,Bi,←FC Ek a i (by omega),←EY Ek a i (by omega),k];exact Mm (w:=w.drew) (Ae u ((Below.refl _ _).drew)) (by omega) B z
  ·rw[k];exact Av (CY (Cb g _ _ _)) (Cb g _ _ _)
 have S:=Yx s;rw[←k]at r;unfold maxLen at M;have y:¬((i:Int)=(a.length:Int)):=by omega
 have zE:(0:Int)<=(i:Int)+1:=by omega
 have zF:(i:Int)+1<=(a.length:Int)+1:=by omega
 have zG:((i:Int)+1).toNat=i+1:=by omega
 have zH:((a.length:Int)+1).toNat=a.length+1:=by omega
 have zI:(0:Int)<=(a.length:Int)+1:=by omega
 have zJ:(a.length:Int)+1<=(b:Int):=by omega
 have X:¬(b=i+1):=by omega
 have Y:¬(b=i):=by omega
 have Z:i<=a.length+1:=by omega
 have zA:(i:Int)<=(a.length:Int)+1:=by omega
 have zB:(i:Int)<=(a.length:Int):=by omega
 have mixed:prog.follows .mixedOrders=true:=by kernel_rfl
 have zK:IntKind.i64.wrap ((i:Int)+1)=(i:Int)+1:=by rw[IntKind.wrap_i64];omega
 have zM:IntKind.i64.wrap ((a.length:Int)+1)=(a.length:Int)+1:=by rw[IntKind.wrap_i64];omega
 clear u c s o A N D d P Q G B E k;go_enter func223,ntmps223;go_wp2_with (simp only[O])
 go_region_law_o (refine Ef rfl _ _ 155 155 rfl (.slice (some ⟨g,(i+1) *8,none⟩) (a.length+1 -(i+1)) (b -(i+1))) (.slice (some ⟨g,i *8,none⟩) (a.length+1 -i) (b -i)) (by simp[Act.eval,Act.put]) (by simp[Act.eval,Act.put]) (r 3 (b -(i+1)) (b -i)) ?_)
 go_wp2_with (at_builtin;refine Dq _ rfl _ _ 155 155 rfl _ _ rfl rfl (C _ _) ?_);go_ret;exact⟨rfl,S.o⟩
theorem LD(g c i:Nat)(a:Zl)(x:Zi)(J:Nat)(w:Zh)(base:Nat)(H:w.ownsRow base 190 8 (Za g a.length c) a.length (Ab Am a))(hl:a.length<=600)(hi:i<a.length)(D:c<a.length+1)(C:base<=w.heap.size)(I:w.heap[J]?=some (.cells (Am x).toArray 190 (0,0))):
 Calls prog 223 #[Za g a.length c,Zg i,Za J 1 1] w fun e w'=>∃G,e=.returned (Za w.heap.size (a.length+1) G)/\w'.ownsRow base 190 8 (Za w.heap.size (a.length+1) G) (a.length+1) (Ab Am (a.take i++[x]++a.drop i))/\w.grownBy w' none:=by
 obtain⟨T,k,zB,A,O⟩:=FH;have L:g<w.heap.size:=(Ac H rfl).2;have zA:=(Array.getElem?_eq_some_iff.1 I).1;have zS:a.length<=c:=by
  rcases H.2 with⟨e,_⟩|⟨g',zH,zI,e,y,hg,h1,h2,h3,h4⟩
  ·cases e
  ·cases e;exact h1
 have z:=Bu Ek a;have N:(Ab Am [x]).length=8:=by rw[Bu Ek];rfl
 have X:((Ab Am a).drop (i *8)).length=(a.length -i) *8:=by rw[List.length_drop,z];omega
 have M:((Ab Am a).take (i *8)).length=i *8:=by rw[List.length_take,z];omega
 have hold:(Builtin.firstCells T.size i (Za g i c)).run prog w.drew=.ok ((Ab Am a).take (i *8)).toArray w.drew:=by
  rw[A];exact run_firstCells_some w.drew 8 i ⟨g,0,none⟩ i c ((Ab Am a).take (i *8)) M (fun j v f=>by
   rw[Go.WideShapes.add_plain,Nat.zero_add];rw[List.getElem?_take]at f;split at f
   ·exact(H.cellAt _ (by omega)).trans f
   ·cases f)
 obtain⟨G,R⟩:∃G,G=grownCap w (a.length+1) c 190:=⟨_,rfl⟩;obtain⟨o,zG,W⟩:∃o:Array Value,o=Value.cells (.agg Ck)/\o.size=8:=⟨_,rfl,by kernel_rfl⟩;obtain⟨B,Q⟩:∃B:Zj,B=(Builtin.zeroCells o (a.length+1 -i)).toList++(Builtin.zeroCells o (G -(a.length+1))).toList:=⟨_,rfl⟩;have zF:a.length+1<=G:=by rw[R];exact grownCap_ge w _ _ _
 have s:G<=maxLen:=by rw[R];exact grownCap_le_maxLen w (a.length+1) c 190 (by unfold maxLen;omega)
 have zC:i *8+B.length=G *8:=by rw[Q];simp[Builtin.zeroCells,W];omega
 have Z:∀m,(Builtin.append_ #[155,3] m #[Za g i c,Zg ((a.length:Int)+1 -(i:Int))]).run prog w=
  .ok (Za w.heap.size (a.length+1) G) (w.drew.alloc (.cells ((Ab Am a).take (i *8)++B).toArray 190)):=fun m=>by
  have Y:i+(a.length+1 -i)=a.length+1:=by omega
  have h:=Lib.run_append_grow_zeros (P:=prog) w 155 3 m 190 T _ .i64 .i64 underlying155 underlying3 k zB (some ⟨g,0,none⟩) i c ((Ab Am a).take (i *8)) hold (a.length+1 -i) (by omega) (by rw[A];omega) (by omega) (by omega) (by rw[O];omega) (by rw[O,Y];exact growslice_fits D (by omega));rw[Y,←R,←zG]at h;rw[show(a.length:Int)+1 -(i:Int)=((a.length+1 -i:Nat):Int) by omega,h,Q]
  have e:((Ab Am a).take (i *8)).toArray++Builtin.zeroCells o (a.length+1 -i)++Builtin.zeroCells o (G -(a.length+1))=((Ab Am a).take (i *8)++((Builtin.zeroCells o (a.length+1 -i)).toList++(Builtin.zeroCells o (G -(a.length+1))).toList)).toArray:=by apply Array.toList_inj.1;simp
  rw[e]
 obtain⟨d,p⟩:∃d,d=w.drew.alloc (.cells ((Ab Am a).take (i *8)++B).toArray 190):=⟨_,rfl⟩;have l:d.heap[w.heap.size]?=some (.cells ((Ab Am a).take (i *8)++B).toArray 190 (0,0)):=by rw[p];exact heap_alloc_new w.drew _
 have S:∀j,j<G *8->(d.cell? (Ze (w.heap.size) j)).isSome=true:=fun j f=>by simp only[World.cell?,l];rw[Array.getElem?_eq_getElem (by simp[M];omega)];rfl
 have K:∀j,d.frozen? ⟨w.heap.size,j,none⟩=false:=fun j=>by simp[World.frozen?,l]
 have hO:∀b,b<w.heap.size->d.heap[b]?=w.heap[b]?:=fun b y=>by rw[p];exact Gq w.drew _ y
 have U:∀m r,(Builtin.copy_ #[155,155] m #[.slice (some ⟨w.heap.size,i *8,none⟩) (a.length+1 -i) r,Za J 1 1]).run prog d=.ok (goInt (Nat.min 1 (a.length+1 -i))) (d.setCells w.heap.size (i *8) (Ab Am [x])):=fun m r=>
  Cy d 155 155 m 190 T 8 w.heap.size (i *8) (a.length+1 -i) r ⟨J,0,none⟩ 1 1 (Ab Am [x]) underlying155 k A (by rw[N,show Nat.min 1 (a.length+1 -i)=1 from Nat.min_eq_left (by omega),Nat.one_mul])
   (fun j v f=>by
     rw[Go.WideShapes.add_plain,Nat.zero_add,World.cell?_of_block (hO J zA)];exact HJ I j v f)
   (fun j f=>S _ (by omega)) (fun j _=>K _) (Dh _)
 obtain⟨q,n⟩:∃q,q=(d.setCells w.heap.size (i *8) (Ab Am [x])).drew:=⟨_,rfl⟩;have V:∀m r sc,(Builtin.copy_ #[155,155] m #[.slice (some ⟨w.heap.size,(i+1) *8,none⟩) (a.length+1 -(i+1)) r,.slice (some ⟨g,i *8,none⟩) (a.length -i) sc]).run prog q=.ok (goInt (Nat.min (a.length -i) (a.length+1 -(i+1)))) (q.setCells w.heap.size ((i+1) *8) ((Ab Am a).drop (i *8))):=fun m r sc=>
  Cy q 155 155 m 190 T 8 w.heap.size ((i+1) *8) (a.length+1 -(i+1)) r ⟨g,i *8,none⟩ (a.length -i) sc ((Ab Am a).drop (i *8)) underlying155 k A (by rw[X];congr 1;show _=min _ _;omega)
   (fun j v f=>by
     rw[List.getElem?_drop]at f;have:=(Zw f).1;rw[Go.WideShapes.add_plain,n,Gs,World.cell?_setCells_out _ _ _ _ _ (fun h _=>absurd h (Nat.ne_of_lt L)),World.cell?_of_block (hO g L)];exact(H.cellAt _ (by omega)).trans f)
   (fun j f=>by rw[n,Gs];exact Hj w.heap.size (Ab Am [x]) (i *8) d (fun t ht=>S _ (by omega)) ((i+1) *8+j) (S _ (by omega))) (fun j _=>by rw[n,Jj,World.frozen?_setCells];exact K _) (fun v I=>Dh _ v (List.mem_of_mem_drop I))
 have u:(q.setCells w.heap.size ((i+1) *8) ((Ab Am a).drop (i *8))).ownsRow base 190 8 (Za w.heap.size (a.length+1) G) (a.length+1) (Ab Am (a.take i++[x]++a.drop i))/\w.grownBy (q.setCells w.heap.size ((i+1) *8) ((Ab Am a).drop (i *8))) none:=by
  refine⟨?_,?_⟩
  ·rw[Bi,Bi,←FC Ek a i (by omega),←EY Ek a i (by omega),n,←Ji];exact Ae (NR (w:=d) z (by omega) N C l zC zF s) ((Below.refl _ _).drew)
  ·have s1:d.heap.size=w.heap.size+1:=by rw[p];simp
   have E:w.grownBy d none:=by rw[p];exact⟨rfl,rfl,rfl,by simp,fun b y _=>Gq w.drew _ y⟩
   have F:d.grownBy (q.setCells w.heap.size ((i+1) *8) ((Ab Am a).drop (i *8))) (some w.heap.size):=by rw[n];exact Av (Av (Cb w.heap.size (Ab Am [x]) (i *8) d) (JN _ _)) (Cb w.heap.size ((Ab Am a).drop (i *8)) ((i+1) *8) _)
   exact⟨F.os.trans E.os,F.tape.trans E.tape,F.output.trans E.output,Zm E.size F.size,fun b y _=>(F.block b (by omega) (by simp;omega)).trans (E.block b y (by simp))⟩
 have HF:=Yx u;have zE:G<=9223372036854775807:=by unfold maxLen at s;omega
 have zW:¬((i:Int)=(a.length:Int)):=by omega
 have zX:(c:Int)<(a.length:Int)+1:=by omega
 have zT:(0:Int)<=(i:Int)+1:=by omega
 have zU:(i:Int)+1<=(a.length:Int)+1:=by omega
 have zV:((i:Int)+1).toNat=i+1:=by omega
 have zJ:¬(c=i):=by omega
 have zK:¬(G=i):=by omega
 have zM:¬(G=i+1):=by omega
 have zN:i<=a.length+1:=by omega
 have zP:(i:Int)<=(a.length:Int)+1:=by omega
 have zR:(i:Int)<=(a.length:Int):=by omega
 have mixed:prog.follows .mixedOrders=true:=by kernel_rfl
 have zO:i<=c:=by omega
 have zY:IntKind.i64.wrap ((i:Int)+1)=(i:Int)+1:=by rw[IntKind.wrap_i64];omega
 have zZ:IntKind.i64.wrap ((a.length:Int)+1)=(a.length:Int)+1:=by rw[IntKind.wrap_i64];omega
 have yA:IntKind.i64.wrap ((a.length:Int)+1 -(i:Int))=(a.length:Int)+1 -(i:Int):=by rw[IntKind.wrap_i64];omega
 rw[←p]at Z;clear H u I k zB O z N X M hold R Q zC l S K hO p L zA;go_enter func223,ntmps223;go_wp2_with (first
  |(at_builtin;refine Lib.wpList_append_run _ rfl _ _ _ _ rfl _ _ rfl rfl _ _ (Z _) ?_)
  |(at_builtin;refine Dq _ rfl _ _ 155 155 rfl _ _ rfl rfl (U _ _) ?_))
 go_region_law_o (refine Ef rfl _ _ 155 155 rfl (.slice (some ⟨w.heap.size,(i+1) *8,none⟩) (a.length+1 -(i+1)) (G -(i+1))) (.slice (some ⟨g,i *8,none⟩) (a.length -i) (c -i)) (by simp[Act.eval,Act.put]) (by simp[Act.eval,Act.put]) (by rw[←n];exact V 3 (G -(i+1)) (c -i)) ?_)
 go_wp2;go_ret;rw[←n];exact⟨G,rfl,HF.o⟩
theorem MN(P:Value)(i:Nat)(a:Zl)(x:Zi)(f:Nat)(w:Zh)(base:Nat)(l:w.ownsRow base 190 8 P a.length (Ab Am a))(o:a.length<=600)(B:i<=a.length)(c:base<=w.heap.size)(s:P.ownBlock≠some f)(p:w.heap[f]?=some (.cells (Am x).toArray 190 (0,0))):
 Calls prog 223 #[P,Zg i,Za f 1 1] w fun e m=>∃k,e=.returned k/\m.ownsRow base 190 8 k (a.length+1) (Ab Am (a.take i++[x]++a.drop i))/\w.grownBy m P.ownBlock/\(k.ownBlock=P.ownBlock∨k.ownBlock=some w.heap.size):=by
 rcases Nat.lt_or_ge i a.length with h|h
 ·rcases l.2 with⟨e,C⟩|⟨g,j,t,e,r,A,u,v,y,z⟩
  ·omega
  ·subst e;rcases Nat.lt_or_ge j (a.length+1)with n|n
   ·refine Calls.mono (LD g j i a x f w base l o h n c p) ?_;rintro e m ⟨G,rfl,q,d⟩;exact⟨_,rfl,q,⟨d.os,d.tape,d.output,d.size,fun b r _=>d.block b r (by simp)⟩,.inr rfl⟩
   ·refine Calls.mono (KS g j i a x f w base l o h n (fun e=>s (by rw[e];rfl)) p) ?_;rintro e m ⟨rfl,q,d⟩;exact⟨_,rfl,q,d,.inl rfl⟩
 ·obtain rfl:i=a.length:=by omega
  rw[List.take_length,List.drop_length,List.append_nil];exact MM P a x f w base l o c p
end
theorem MO(a:Zk)(c:Nat)(s:Zi)(w:Zh):
 Calls prog 233 #[.slice a 0 c,Cm s,.func (.func 234) #[] #[]] w fun e d=>e=.returned (.tuple #[Zf,.bool false])/\Zz w d:=by
 unfold Cm CO;go_enter func233,ntmps233;go_wp2
 go_loopw [9,10] (fun i j wr=>i=Zg 0/\j=Zg 0/\Zz w wr) (fun _ _ _=>0)
 case atStart=>exact⟨rfl,rfl,Zy⟩
 case round=>
  obtain⟨rfl,rfl,b⟩:=hrel;have f:=AB.ne wr;go_wp2;refine AI (by kernel_rfl) (by kernel_rfl) ?_
  repeat (go_big_quiet_step (fail))
  refine wpQuiet_nil ?_;intro m;go_wp2
  go_ret2
  exact⟨by first|rfl|simp[Act.put],b.trans (m.h.mono b.size)⟩
theorem Wo(base:Nat)(O:Value)(c:Zl)(s:Zi)(w:Zh)(f:w.ownsRow base 190 8 O c.length (AA c))(p:c.length<=600)(m:s.size<=8)(n:∀x∈c,x.size=s.size)(d:c.Pairwise (fun a b=>less a b=true)):
 Calls prog 233 #[O,Cm s,.func (.func 234) #[] #[]] w fun e k=>∃i:Nat,e=.returned (.tuple #[Zg i,.bool (decide (c[i]?=some s))])/\Fi c s i/\Zz w k:=by
 rcases f.2 with⟨rfl,r⟩|⟨g,l,t,rfl,_⟩
 ·have:c=[]:=List.eq_nil_of_length_eq_zero r;subst this;refine(MO none 0 s w).mono ?_;rintro e k ⟨rfl,o⟩;exact⟨0,by simp,⟨Zx,fun j x h=>by omega,fun j x _ q=>by simp at q⟩,o⟩
 ·exact KC g l c s w base f p m n d
theorem XJ(base d m:Nat)(j:Zk)(k:Nat)(P L:Value)(S B given ae:Int)(c:List Kd)(s:Zi)(w:Zh)(f:Aa w d [Zg S,.map (some m),Zg B,Zg given,Zg ae,.slice j c.length k,P,L])(g:w.ownsRow base 190 8 (.slice j c.length k) c.length (AA (c.map (·.sum))))
 (M:c.length<=600) (z:s.size<=8) (A:∀x∈c,x.sum.size=s.size) (h:(c.map (·.sum)).Pairwise (fun a b=>less a b=true)):
 Calls prog 214 #[Yz d,Cm s] w fun e R=>∃i:Nat,e=.returned (.tuple #[Zg i,.bool (decide ((c.map (·.sum))[i]?=some s))])/\Fi (c.map (·.sum)) s i/\Zz w R:=by
 obtain⟨W,n⟩:∃W,W=w.alloc (.cells (Yw (kB s)) 190):=⟨_,rfl⟩;have l:=(AG n).1;have t:Aa W w.heap.size (Am s):=by rw[n];exact Aa.new w (Am s) 190
 have o:W.drew.ownsRow base 190 8 (.slice j c.length k) (c.map (·.sum)).length (AA (c.map (·.sum))):=by rw[List.length_map];exact Ae g l.drew
 have q:=Yx (Wo base (.slice j c.length k) (c.map (·.sum)) s W.drew o (by rw[List.length_map];exact M) z (fun x N=>by obtain⟨y,O,rfl⟩:=List.mem_map.1 N;exact A y O) h)
 have K:W.drew.cell? (Ze d 5)=some (.slice j c.length k)/\(W.drew.cell? (Ze (w.heap.size) 0)=some (.int .u8 (kB s 0))/\W.drew.cell? (Ze (w.heap.size) 1)=some (.int .u8 (kB s 1))/\W.drew.cell? (Ze (w.heap.size) 2)=some (.int .u8 (kB s 2))/\W.drew.cell? (Ze (w.heap.size) 3)=some (.int .u8 (kB s 3))/\W.drew.cell? (Ze (w.heap.size) 4)=some (.int .u8 (kB s 4))/\W.drew.cell? (Ze (w.heap.size) 5)=some (.int .u8 (kB s 5))/\W.drew.cell? (Ze (w.heap.size) 6)=some (.int .u8 (kB s 6))/\W.drew.cell? (Ze (w.heap.size) 7)=some (.int .u8 (kB s 7))):=⟨(Aa.below f l 5 _ rfl).1,GM (w:=W.drew) t⟩
 have r:=Yx n;clear n t o f g;unfold Cm CO at *
 go_enter func214,ntmps214;go_upto_region 1 with fail;rw[←r.o];clear r;obtain⟨Q,C,D,E,F,G,H,I,J⟩:=K;go_region_with (go_at_call 233;refine Calls.mono q.o ?_;rintro e T ⟨i,rfl,v,u⟩)
 all_goals
  have p:=Yx (Zn v (l.trans ((Dv u).mono l.size)));clear v u Q C D E F G H I J q;go_wp2
  go_ret2
  exact⟨i,by first|rfl|simp[Act.put],p.o.1,p.o.2⟩
def Dz(ks:List Kd)(x:Kd):List Kd:=ks.filter (fun k=>less k.sum x.sum)++[x]++ks.filter (fun k=> !(less k.sum x.sum))
theorem GR{a:List Kd}{x u:Kd}:u∈Dz a x↔u∈a++[x]:=by
 unfold Dz;simp only[List.mem_append,List.mem_filter,List.mem_singleton];cases less u.sum x.sum<;>simp
 ·constructor
  ·rintro(h|h)
   ·exact .inr h
   ·exact .inl h
  ·rintro(h|h)
   ·exact .inr h
   ·exact .inl h
theorem NT(a:List Kd)(x:Kd):(Dz a x).length=a.length+1:=by
 unfold Dz;rw[List.length_append,List.length_append];have:∀l:List Kd,(l.filter (fun k=>less k.sum x.sum)).length+(l.filter (fun k=> !(less k.sum x.sum))).length=l.length:=by
  intro l;induction l with
  |nil=>rfl
  |cons y l ih=>cases h:less y.sum x.sum<;>simp[h]<;>omega
 have:=this a;simp;omega
theorem QU{b:List Kd}{x:Kd}{i:Nat}(h:Fi (b.map (·.sum)) x.sum i):Dz b x=b.take i++[x]++b.drop i:=by
 have lo:∀k∈b.take i,less k.sum x.sum=true:=fun k a=>by obtain⟨j,c⟩:=List.getElem?_of_mem a;have f:=(Zw c).1;rw[List.length_take]at f;rw[List.getElem?_take_of_lt (by omega)]at c;exact h.lo j k.sum (by omega) (by rw[List.getElem?_map,c];rfl)
 have d:∀k∈b.drop i,less k.sum x.sum=false:=fun k a=>by obtain⟨j,c⟩:=List.getElem?_of_mem a;rw[List.getElem?_drop]at c;exact h.hi (i+j) k.sum (by omega) (by rw[List.getElem?_map,c];rfl)
 have e:=(List.take_append_drop i b).symm;unfold Dz
 conv=>lhs;rw[e]
 rw[List.filter_append,List.filter_append,List.filter_eq_self.2 lo,List.filter_eq_nil_iff.2 (fun k a=>by rw[d k a];simp),List.filter_eq_nil_iff.2 (fun k a=>by rw[lo k a];simp),List.filter_eq_self.2 (fun k a=>by rw[d k a];rfl)];simp
theorem Holds.same{W:Zh}{B:Nat}{i:Int}{g a:List Kd}{f:Lit->Option Value}(h:Holds W B i g f)(d:∀u,u∈a↔u∈g):Holds W B i a f:=by
 intro s j;rcases h s j with⟨b,c⟩|⟨u,l,m,b,c⟩
 ·exact .inl ⟨b,fun⟨k,hk,e⟩=>c ⟨k,(d k).1 hk,e⟩⟩
 ·exact .inr ⟨u,l,m,(d u).2 b,c⟩
theorem QV{w:Zh}{base g b n:Nat}{a:List Pd}(h:w.ownsRow base 137 2 (Za g n b) n (Ab pC a)){i:Nat}{x:Pd}(f:a[i]?=some x)(s:Zi):(w.setCell (Ze g (i *2+1)) (.string s)).ownsRow base 137 2 (Za g n b) n (Ab pC (a.set i ⟨x.name,s⟩)):=by
 have l:=(Zw f).1;have d:=(h.stored (i *2+1) (.string s)).1;have k:(Ab pC a)[i *2]?=some (.string x.name):=by have:=Bp BI f (show 0<2 by decide);simpa [pC]using this
 have c:=Ki l (⟨x.name,s⟩:Pd);have j:(Ab pC a).set (i *2) (.string x.name)=Ab pC a:=by obtain⟨m,e⟩:=Zw k;rw[←e];exact List.set_getElem_self m
 rw[j]at c;rw[c]at d;exact d
theorem Wp(base d m:Nat)(O P L:Value)(u l given ae:Int)(r:List Kd)(c:List Pd)(C:List Ld)(n s:Zi)(w:Zh)(h:DU w base d m O P L u l given ae r c C)(J:∀k∈r,(k.sum.size:Int)=u)(y:Ax r s)(hl:c.length<=200)(o:c.Pairwise (fun a b=>less a.name b.name=true))(G:∃x∈c,x.name=n):
 Calls prog 175 #[Yz d,.string n,.string s] w fun e T=>e=.returned (.tuple #[])/\∃K,DU T base d m O K L u l given ae r (Bl c n s) C/\Tn (d::P.ownBlock.toList) w T:=by
 have H:0<c.length:=by obtain⟨x,hx,_⟩:=G;exact List.length_pos_of_mem hx
 obtain⟨g,j,U⟩:=Jc h.dr.ci H;subst U;have HN:=Yx (Em base d m O (Za g c.length j) L u l given ae r c C s w h.dr J y);have M:=Yx h;have z:=Yx o;have I:Hid (∃x∈c,x.name=n):=G;clear h o G J y;go_enter func175,ntmps175;go_wp2_with fail;refine Calls.mono HN.o ?_;rintro e w1 ⟨rfl,A⟩;have D:=M.o.below A;have N:=Yx (Jd base d m O L g j u l given ae r c C n w1 D hl z.o);clear HN;go_wp2_with fail
 refine Calls.mono N.o ?_;rintro e t ⟨i,rfl,F,E⟩;obtain⟨x,p,B⟩:=F.at I.o z.o;have v:decide (∃x,c[i]?=some x/\x.name=n)=true:=by simpa using ⟨x,p,B⟩
 have zC:i<c.length:=(Zw p).1;have Y:Hid (Bl c n s=c.set i ⟨n,s⟩):=Uz F p B z.o;have f:=D.below E;obtain⟨c6,_⟩:=f.dr.box 6 _ rfl;have zA:t.cell? (Ze g (i *2+1))=some (.string x.sum):=by have:=(f.dr.ci.cellAt (i *2+1) (by omega)).trans (Bp BI p (show 1<2 by decide));simpa [pC]using this
 have zB:t.frozen? ⟨g,i *2+1,none⟩=false:=f.dr.ci.frozenAt _;have W:g≠d:=((CZ f.dr.ap).2.2.1 g rfl).1;have q:=QV f.dr.ci p s;rw[B]at q;have Q:∃K,DU (t.setCell (Ze g (i *2+1)) (.string s)) base d m O K L u l given ae r (Bl c n s) C/\Tn (d::(Za g c.length j).ownBlock.toList) w (t.setCell (Ze g (i *2+1)) (.string s)):=by
  have S:Tn (d::(Za g c.length j).ownBlock.toList) t (t.setCell (Ze g (i *2+1)) (.string s)):=(En t g _ _).mono (by intro b R;simp[Value.ownBlock]at R ⊢;exact .inr R);have V:Aa (t.setCell (Ze g (i *2+1)) (.string s)) d [Zg u,.map (some m),Zg l,Zg given,Zg ae,O,Za g c.length j,L]:=Aa.same f.dr.box (Below.heap_setCell _ _ _ _ (fun e=>W e.symm))
  refine⟨Za g c.length j,f.gn S V ?_ (.inl rfl),(Tn.of (A.trans (E.mono A.size))).trans S⟩;rw[Y.o,List.length_set];exact q
 have Z:=Yx Q;have X:(i:Int)<c.length:=by omega
 rw[v];clear v Q q p B F D f A E M N I z;go_wp2;refine bodyPost_ret (results_none rfl _ _ _) rfl ?_;exact⟨rfl,Z.o⟩
theorem Pc(base d m:Nat)(O P L:Value)(g f given ae:Int)(b:List Kd)(j:List Pd)(i:List Ld)(n s:Zi)(w:Zh)(h:DU w base d m O P L g f given ae b j i)(c:∀k∈b,(k.sum.size:Int)=g)(a:¬Ax b s):
 Calls prog 175 #[Yz d,.string n,.string s] w fun e o=>e=.panicked [{v:=ay 2 ⟨#[]⟩ ⟨#[]⟩,recovered:=false}]/\Zz w o:=by
 have HN:=Yx (JC base d m O P L g f given ae b j i s w h.dr c a);clear h c a;go_enter func175,ntmps175;go_wp2_with fail;refine Calls.mono HN.o ?_;rintro e p ⟨rfl,l⟩;go_wp2;exact⟨rfl,rfl,l⟩
theorem UB(base d m:Nat)(O P L:Value)(t r given ae:Int)(o:List Kd)(c:List Pd)(D:List Ld)(n s:Zi)(w:Zh)(h:DU w base d m O P L t r given ae o c D)(A:∀k∈o,(k.sum.size:Int)=t)(j:Ax o s)(G:c.length=100)(f:c.Pairwise (fun a b=>less a.name b.name=true))(B:¬∃x∈c,x.name=n):
 Calls prog 175 #[Yz d,.string n,.string s] w fun e Q=>e=.panicked [{v:=ay 4 ⟨#[]⟩ ⟨#[]⟩,recovered:=false}]/\Zz w Q:=by
 obtain⟨H,C,J⟩:=As h.dr.ci;subst J;have HN:=Yx (Em base d m O (.slice H c.length C) L t r given ae o c D s w h.dr A j);have E:=Yx h;have u:=Yx f;have y:=Yx B;have S:((c.length:Int)==100)=true:=by simp;omega
 have I:=Yx G;clear h f B A j G;go_enter func175,ntmps175;go_wp2_with fail;refine Calls.mono HN.o ?_;rintro e R ⟨rfl,l⟩;have p:=E.o.below l;have F:=Yx (Jg base d m O (.slice H c.length C) L t r given ae o c D n R p (by have:=I.o;omega) u.o);clear HN;go_wp2_with fail;refine Calls.mono F.o ?_;rintro e T ⟨i,rfl,_,q⟩;have g:decide (∃x,c[i]?=some x/\x.name=n)=false:=by rw[decide_eq_false_iff_not];rintro⟨x,N,M⟩;exact y.o ⟨x,Zs N,M⟩
 have z:=p.below q;obtain⟨c6,_⟩:=z.dr.box 6 _ rfl;have K:=Yx (l.trans (q.mono l.size));rw[g];clear g p z l q E F y u;go_wp2;exact⟨rfl,rfl,K.o⟩
section
open Go.ChangeShapes Go.WideShapes Go.ChangeAt Go.RowKit Go.Lib
theorem FI:∃i:TypeInfo,prog.info? 137=some i/\i.zero=some (.agg #[Zd,Zd])/\i.size=2/\i.bytes=32:=by obtain⟨e,d,a,b,c⟩:=info_parts Gy;exact⟨e,d,a,b,c⟩
theorem Ia{w:Zh}{b:Nat}{x:Pd}(c:w.heap[b]?=some (.cells #[.string x.name,.string x.sum] 137 (0,0))):∀j u,(Ab pC [x])[j]?=some u->w.cell? (Ze b j)=some u:=by intro j u a;rw[Ab,List.flatMap_cons,List.flatMap_nil,List.append_nil]at a;simp only[World.cell?,c];rw[←a];simp[pC]
theorem MP(P:Value)(a:List Pd)(x:Pd)(r:Nat)(w:Zh)(base:Nat)(n:w.ownsRow base 137 2 P a.length (Ab pC a))(G:a.length<=600)(c:base<=w.heap.size)(p:w.heap[r]?=some (.cells #[.string x.name,.string x.sum] 137 (0,0))):
 Calls prog 205 #[P,Zg a.length,Za r 1 1] w fun e s=>∃l,e=.returned l/\s.ownsRow base 137 2 l (a.length+1) (Ab pC (a++[x]))/\w.grownBy s P.ownBlock/\(l.ownBlock=P.ownBlock∨l.ownBlock=some w.heap.size):=by
 obtain⟨C,b,f,h,i⟩:=FI;obtain⟨q,s,o,d,m,_,t⟩:=run_append_own_at (P:=prog) w base 37 37 137 C _ 2 32 underlying37 b f h i rfl (by decide) P a.length (Ab pC a) n ⟨r,0,none⟩ 1 1 (Ab pC [x]) (by rw[Bu BI];rfl) (fun j u B=>by rw[Go.WideShapes.add_plain,Nat.zero_add];exact Ia p j u B) (IT _) (by unfold maxLen;omega) (by omega) c;rw[←Bi]at d;have k:=Yx (Zn d (Zn m t));clear d m t
 rcases n.2 with⟨e,y⟩|⟨g,v,D,e,F,A,E,d,m,z⟩
 ·subst e;rw[y]at k ⊢;clear n p b f h i;go_enter func205,ntmps205;go_wp2_with (at_builtin;refine Lib.wpList_append_run _ rfl _ _ _ _ rfl _ _ rfl rfl _ _ o ?_);go_ret;exact⟨q,rfl,k.o⟩
 ·subst e;clear n p b f h i A m z;unfold maxLen at d;by_cases hc:v=a.length
  ·subst hc;go_enter func205,ntmps205;go_wp2_with (at_builtin;refine Lib.wpList_append_run _ rfl _ _ _ _ rfl _ _ rfl rfl _ _ o ?_);go_ret;exact⟨q,rfl,k.o⟩
  ·go_enter func205,ntmps205;go_wp2_with (at_builtin;refine Lib.wpList_append_run _ rfl _ _ _ _ rfl _ _ rfl rfl _ _ o ?_);go_ret;exact⟨q,rfl,k.o⟩
theorem KT(g b i:Nat)(a:List Pd)(x:Pd)(q:Nat)(w:Zh)(base:Nat)(u:w.ownsRow base 137 2 (Za g a.length b) a.length (Ab pC a))(hl:a.length<=600)(hi:i<a.length)(z:a.length+1<=b)(F:q≠g)(o:w.heap[q]?=some (.cells #[.string x.name,.string x.sum] 137 (0,0))):
 Calls prog 205 #[Za g a.length b,Zg i,Za q 1 1] w fun e L=>e=.returned (Za g (a.length+1) b)/\L.ownsRow base 137 2 (Za g (a.length+1) b) (a.length+1) (Ab pC (a.take i++[x]++a.drop i))/\w.grownBy L (some g):=by
 obtain⟨K,d,P,y,Q⟩:=FI;obtain⟨f,A,zC,M,D,N⟩:∃f,w.heap[g]?=some (.cells f 137 (0,0))/\a.length<=b/\b<=maxLen/\f.size=b *2/\f.toList.take (a.length *2)=Ab pC a:=by
  rcases u.2 with⟨e,_⟩|⟨g',R,f,e,hb,A,T,U,V,W⟩
  ·cases e
  ·cases e;exact⟨f,A,T,U,V,W⟩
 have G:=Bu BI a;have B:(Ab pC [x]).length=2:=by rw[Bu BI];rfl
 have E:((Ab pC a).drop (i *2)).length=(a.length -i) *2:=by rw[List.length_drop,G];omega
 have c:∀j,j<b *2->(w.cell? (Ze g j)).isSome=true:=fun j l=>by simp only[World.cell?,A];rw[Array.getElem?_eq_getElem (by omega)];rfl
 have O:∀I H,(callFunc 227 #[Za q 1 1,.slice (some ⟨g,(i+1) *2,none⟩) I H]).run prog w=.ok (.value (.bool false)) w:=fun I H=>by
  rw[run_callFunc_extern func227 (by kernel_rfl) (by kernel_rfl) (by kernel_rfl) (e:=Extern.SlicesOverlaps.overlaps #[37,37] #[4]) (by kernel_rfl),
   Lib.run_overlaps_apart w 37 4 137 underlying37 2 (fun w=>by simp[sizeOf,typeInfo,d,y]) ⟨q,0,none⟩ ⟨g,(i+1) *2,none⟩ 1 1 I H F 137 137 (#[.string x.name,.string x.sum]:Array Value).size f.size (by simp only[World.shape?,o]) (by simp only[World.shape?,A]) (by rw[D];omega) (by simp only[World.frozen?,o];rfl) (by simp[World.frozen?,o])]
  rfl
 have r:∀p n J,(Builtin.copy_ #[37,37] p #[.slice (some ⟨g,(i+1) *2,none⟩) (a.length+1 -(i+1)) n,.slice (some ⟨g,i *2,none⟩) (a.length+1 -i) J]).run prog w.drew=.ok (goInt (Nat.min (a.length+1 -i) (a.length+1 -(i+1)))) (w.drew.setCells g ((i+1) *2) ((Ab pC a).drop (i *2))):=fun p n J=>
  Cy w.drew 37 37 p 137 K 2 g ((i+1) *2) (a.length+1 -(i+1)) n ⟨g,i *2,none⟩ (a.length+1 -i) J ((Ab pC a).drop (i *2)) underlying37 d y (by rw[E];congr 1;show _=min _ _;omega)
   (fun j v l=>by
     rw[Go.WideShapes.add_plain];rw[List.getElem?_drop]at l;have:=(Zw l).1;exact(u.cellAt _ (by omega)).trans l)
   (fun j l=>c _ (by omega)) (fun j _=>u.frozenAt _) (fun v o=>IT _ v (List.mem_of_mem_drop o))
 obtain⟨m,k⟩:∃m,m=w.drew.setCells g ((i+1) *2) ((Ab pC a).drop (i *2)):=⟨_,rfl⟩;have C:∀p n,(Builtin.copy_ #[37,37] p #[.slice (some ⟨g,i *2,none⟩) (a.length+1 -i) n,Za q 1 1]).run prog m=.ok (goInt (Nat.min 1 (a.length+1 -i))) (m.setCells g (i *2) (Ab pC [x])):=fun p n=>
  Cy m 37 37 p 137 K 2 g (i *2) (a.length+1 -i) n ⟨q,0,none⟩ 1 1 (Ab pC [x]) underlying37 d y (by rw[B,show Nat.min 1 (a.length+1 -i)=1 from Nat.min_eq_left (by omega),Nat.one_mul])
   (fun j v l=>by
     rw[Go.WideShapes.add_plain,Nat.zero_add,k,World.cell?_setCells_out g _ _ _ _ (fun h _=>absurd h F)];exact Ia o j v l)
   (fun j l=>by rw[k];exact Hj g ((Ab pC a).drop (i *2)) ((i+1) *2) w.drew (fun t ht=>c _ (by omega)) (i *2+j) (c _ (by omega))) (fun j _=>by rw[k,World.frozen?_setCells];exact u.frozenAt _) (IT _)
 have s:(m.setCells g (i *2) (Ab pC [x])).ownsRow base 137 2 (Za g (a.length+1) b) (a.length+1) (Ab pC (a.take i++[x]++a.drop i))/\w.grownBy (m.setCells g (i *2) (Ab pC [x])) (some g):=by
  refine⟨?_,?_⟩
  ·rw[Bi,Bi,←FC BI a i (by omega),←EY BI a i (by omega),k];exact Mm (w:=w.drew) (Ae u ((Below.refl _ _).drew)) (by omega) B z
  ·rw[k];exact Av (CY (Cb g _ _ _)) (Cb g _ _ _)
 have S:=Yx s;rw[←k]at r;unfold maxLen at M;have y:¬((i:Int)=(a.length:Int)):=by omega
 have zE:(0:Int)<=(i:Int)+1:=by omega
 have zF:(i:Int)+1<=(a.length:Int)+1:=by omega
 have zG:((i:Int)+1).toNat=i+1:=by omega
 have zH:((a.length:Int)+1).toNat=a.length+1:=by omega
 have zI:(0:Int)<=(a.length:Int)+1:=by omega
 have zJ:(a.length:Int)+1<=(b:Int):=by omega
 have X:¬(b=i+1):=by omega
 have Y:¬(b=i):=by omega
 have Z:i<=a.length+1:=by omega
 have zA:(i:Int)<=(a.length:Int)+1:=by omega
 have zB:(i:Int)<=(a.length:Int):=by omega
 have mixed:prog.follows .mixedOrders=true:=by kernel_rfl
 have zK:IntKind.i64.wrap ((i:Int)+1)=(i:Int)+1:=by rw[IntKind.wrap_i64];omega
 have zM:IntKind.i64.wrap ((a.length:Int)+1)=(a.length:Int)+1:=by rw[IntKind.wrap_i64];omega
 clear u c s o A N D d P Q G B E k;go_enter func205,ntmps205;go_wp2_with (simp only[O])
 go_region_law_o (refine Ef rfl _ _ 37 37 rfl (.slice (some ⟨g,(i+1) *2,none⟩) (a.length+1 -(i+1)) (b -(i+1))) (.slice (some ⟨g,i *2,none⟩) (a.length+1 -i) (b -i)) (by simp[Act.eval,Act.put]) (by simp[Act.eval,Act.put]) (r 3 (b -(i+1)) (b -i)) ?_)
 go_wp2_with (at_builtin;refine Dq _ rfl _ _ 37 37 rfl _ _ rfl rfl (C _ _) ?_);go_ret;exact⟨rfl,S.o⟩
theorem LF(g c i:Nat)(a:List Pd)(x:Pd)(J:Nat)(w:Zh)(base:Nat)(H:w.ownsRow base 137 2 (Za g a.length c) a.length (Ab pC a))(hl:a.length<=600)(hi:i<a.length)(D:c<a.length+1)(C:base<=w.heap.size)(I:w.heap[J]?=some (.cells #[.string x.name,.string x.sum] 137 (0,0))):
 Calls prog 205 #[Za g a.length c,Zg i,Za J 1 1] w fun e w'=>∃G,e=.returned (Za w.heap.size (a.length+1) G)/\w'.ownsRow base 137 2 (Za w.heap.size (a.length+1) G) (a.length+1) (Ab pC (a.take i++[x]++a.drop i))/\w.grownBy w' none:=by
 obtain⟨T,k,zB,A,O⟩:=FI;have L:g<w.heap.size:=(Ac H rfl).2;have zA:=(Array.getElem?_eq_some_iff.1 I).1;have zS:a.length<=c:=by
  rcases H.2 with⟨e,_⟩|⟨g',zH,zI,e,y,hg,h1,h2,h3,h4⟩
  ·cases e
  ·cases e;exact h1
 have z:=Bu BI a;have N:(Ab pC [x]).length=2:=by rw[Bu BI];rfl
 have X:((Ab pC a).drop (i *2)).length=(a.length -i) *2:=by rw[List.length_drop,z];omega
 have M:((Ab pC a).take (i *2)).length=i *2:=by rw[List.length_take,z];omega
 have hold:(Builtin.firstCells T.size i (Za g i c)).run prog w.drew=.ok ((Ab pC a).take (i *2)).toArray w.drew:=by
  rw[A];exact run_firstCells_some w.drew 2 i ⟨g,0,none⟩ i c ((Ab pC a).take (i *2)) M (fun j v f=>by
   rw[Go.WideShapes.add_plain,Nat.zero_add];rw[List.getElem?_take]at f;split at f
   ·exact(H.cellAt _ (by omega)).trans f
   ·cases f)
 obtain⟨G,R⟩:∃G,G=grownCap w (a.length+1) c 137:=⟨_,rfl⟩;obtain⟨o,zG,W⟩:∃o:Array Value,o=Value.cells (.agg #[Zd,Zd])/\o.size=2:=⟨_,rfl,by kernel_rfl⟩;obtain⟨B,Q⟩:∃B:Zj,B=(Builtin.zeroCells o (a.length+1 -i)).toList++(Builtin.zeroCells o (G -(a.length+1))).toList:=⟨_,rfl⟩;have zF:a.length+1<=G:=by rw[R];exact grownCap_ge w _ _ _
 have s:G<=maxLen:=by rw[R];exact grownCap_le_maxLen w (a.length+1) c 137 (by unfold maxLen;omega)
 have zC:i *2+B.length=G *2:=by rw[Q];simp[Builtin.zeroCells,W];omega
 have Z:∀m,(Builtin.append_ #[37,3] m #[Za g i c,Zg ((a.length:Int)+1 -(i:Int))]).run prog w=
  .ok (Za w.heap.size (a.length+1) G) (w.drew.alloc (.cells ((Ab pC a).take (i *2)++B).toArray 137)):=fun m=>by
  have Y:i+(a.length+1 -i)=a.length+1:=by omega
  have h:=Lib.run_append_grow_zeros (P:=prog) w 37 3 m 137 T _ .i64 .i64 underlying37 underlying3 k zB (some ⟨g,0,none⟩) i c ((Ab pC a).take (i *2)) hold (a.length+1 -i) (by omega) (by rw[A];omega) (by omega) (by omega) (by rw[O];omega) (by rw[O,Y];exact growslice_fits D (by omega));rw[Y,←R,←zG]at h;rw[show(a.length:Int)+1 -(i:Int)=((a.length+1 -i:Nat):Int) by omega,h,Q]
  have e:((Ab pC a).take (i *2)).toArray++Builtin.zeroCells o (a.length+1 -i)++Builtin.zeroCells o (G -(a.length+1))=((Ab pC a).take (i *2)++((Builtin.zeroCells o (a.length+1 -i)).toList++(Builtin.zeroCells o (G -(a.length+1))).toList)).toArray:=by apply Array.toList_inj.1;simp
  rw[e]
 obtain⟨d,p⟩:∃d,d=w.drew.alloc (.cells ((Ab pC a).take (i *2)++B).toArray 137):=⟨_,rfl⟩;have l:d.heap[w.heap.size]?=some (.cells ((Ab pC a).take (i *2)++B).toArray 137 (0,0)):=by rw[p];exact heap_alloc_new w.drew _
 have S:∀j,j<G *2->(d.cell? (Ze (w.heap.size) j)).isSome=true:=fun j f=>by simp only[World.cell?,l];rw[Array.getElem?_eq_getElem (by simp[M];omega)];rfl
 have K:∀j,d.frozen? ⟨w.heap.size,j,none⟩=false:=fun j=>by simp[World.frozen?,l]
 have hO:∀b,b<w.heap.size->d.heap[b]?=w.heap[b]?:=fun b y=>by rw[p];exact Gq w.drew _ y
 have U:∀m r,(Builtin.copy_ #[37,37] m #[.slice (some ⟨w.heap.size,i *2,none⟩) (a.length+1 -i) r,Za J 1 1]).run prog d=.ok (goInt (Nat.min 1 (a.length+1 -i))) (d.setCells w.heap.size (i *2) (Ab pC [x])):=fun m r=>
  Cy d 37 37 m 137 T 2 w.heap.size (i *2) (a.length+1 -i) r ⟨J,0,none⟩ 1 1 (Ab pC [x]) underlying37 k A (by rw[N,show Nat.min 1 (a.length+1 -i)=1 from Nat.min_eq_left (by omega),Nat.one_mul])
   (fun j v f=>by
     rw[Go.WideShapes.add_plain,Nat.zero_add,World.cell?_of_block (hO J zA)];exact Ia I j v f)
   (fun j f=>S _ (by omega)) (fun j _=>K _) (IT _)
 obtain⟨q,n⟩:∃q,q=(d.setCells w.heap.size (i *2) (Ab pC [x])).drew:=⟨_,rfl⟩;have V:∀m r sc,(Builtin.copy_ #[37,37] m #[.slice (some ⟨w.heap.size,(i+1) *2,none⟩) (a.length+1 -(i+1)) r,.slice (some ⟨g,i *2,none⟩) (a.length -i) sc]).run prog q=.ok (goInt (Nat.min (a.length -i) (a.length+1 -(i+1)))) (q.setCells w.heap.size ((i+1) *2) ((Ab pC a).drop (i *2))):=fun m r sc=>
  Cy q 37 37 m 137 T 2 w.heap.size ((i+1) *2) (a.length+1 -(i+1)) r ⟨g,i *2,none⟩ (a.length -i) sc ((Ab pC a).drop (i *2)) underlying37 k A (by rw[X];congr 1;show _=min _ _;omega)
   (fun j v f=>by
     rw[List.getElem?_drop]at f;have:=(Zw f).1;rw[Go.WideShapes.add_plain,n,Gs,World.cell?_setCells_out _ _ _ _ _ (fun h _=>absurd h (Nat.ne_of_lt L)),World.cell?_of_block (hO g L)];exact(H.cellAt _ (by omega)).trans f)
   (fun j f=>by rw[n,Gs];exact Hj w.heap.size (Ab pC [x]) (i *2) d (fun t ht=>S _ (by omega)) ((i+1) *2+j) (S _ (by omega))) (fun j _=>by rw[n,Jj,World.frozen?_setCells];exact K _) (fun v I=>IT _ v (List.mem_of_mem_drop I))
 have u:(q.setCells w.heap.size ((i+1) *2) ((Ab pC a).drop (i *2))).ownsRow base 137 2 (Za w.heap.size (a.length+1) G) (a.length+1) (Ab pC (a.take i++[x]++a.drop i))/\w.grownBy (q.setCells w.heap.size ((i+1) *2) ((Ab pC a).drop (i *2))) none:=by
  refine⟨?_,?_⟩
  ·rw[Bi,Bi,←FC BI a i (by omega),←EY BI a i (by omega),n,←Ji];exact Ae (NR (w:=d) z (by omega) N C l zC zF s) ((Below.refl _ _).drew)
  ·have s1:d.heap.size=w.heap.size+1:=by rw[p];simp
   have E:w.grownBy d none:=by rw[p];exact⟨rfl,rfl,rfl,by simp,fun b y _=>Gq w.drew _ y⟩
   have F:d.grownBy (q.setCells w.heap.size ((i+1) *2) ((Ab pC a).drop (i *2))) (some w.heap.size):=by rw[n];exact Av (Av (Cb w.heap.size (Ab pC [x]) (i *2) d) (JN _ _)) (Cb w.heap.size ((Ab pC a).drop (i *2)) ((i+1) *2) _)
   exact⟨F.os.trans E.os,F.tape.trans E.tape,F.output.trans E.output,Zm E.size F.size,fun b y _=>(F.block b (by omega) (by simp;omega)).trans (E.block b y (by simp))⟩
 have HF:=Yx u;have zE:G<=9223372036854775807:=by unfold maxLen at s;omega
 have zW:¬((i:Int)=(a.length:Int)):=by omega
 have zX:(c:Int)<(a.length:Int)+1:=by omega
 have zT:(0:Int)<=(i:Int)+1:=by omega
 have zU:(i:Int)+1<=(a.length:Int)+1:=by omega
 have zV:((i:Int)+1).toNat=i+1:=by omega
 have zJ:¬(c=i):=by omega
 have zK:¬(G=i):=by omega
 have zM:¬(G=i+1):=by omega
 have zN:i<=a.length+1:=by omega
 have zP:(i:Int)<=(a.length:Int)+1:=by omega
 have zR:(i:Int)<=(a.length:Int):=by omega
 have mixed:prog.follows .mixedOrders=true:=by kernel_rfl
 have zO:i<=c:=by omega
 have zY:IntKind.i64.wrap ((i:Int)+1)=(i:Int)+1:=by rw[IntKind.wrap_i64];omega
 have zZ:IntKind.i64.wrap ((a.length:Int)+1)=(a.length:Int)+1:=by rw[IntKind.wrap_i64];omega
 have yA:IntKind.i64.wrap ((a.length:Int)+1 -(i:Int))=(a.length:Int)+1 -(i:Int):=by rw[IntKind.wrap_i64];omega
 rw[←p]at Z;clear H u I k zB O z N X M hold R Q zC l S K hO p L zA;go_enter func205,ntmps205;go_wp2_with (first
  |(at_builtin;refine Lib.wpList_append_run _ rfl _ _ _ _ rfl _ _ rfl rfl _ _ (Z _) ?_)
  |(at_builtin;refine Dq _ rfl _ _ 37 37 rfl _ _ rfl rfl (U _ _) ?_))
 go_region_law_o (refine Ef rfl _ _ 37 37 rfl (.slice (some ⟨w.heap.size,(i+1) *2,none⟩) (a.length+1 -(i+1)) (G -(i+1))) (.slice (some ⟨g,i *2,none⟩) (a.length -i) (c -i)) (by simp[Act.eval,Act.put]) (by simp[Act.eval,Act.put]) (by rw[←n];exact V 3 (G -(i+1)) (c -i)) ?_)
 go_wp2;go_ret;rw[←n];exact⟨G,rfl,HF.o⟩
theorem MQ(P:Value)(i:Nat)(a:List Pd)(x:Pd)(f:Nat)(w:Zh)(base:Nat)(l:w.ownsRow base 137 2 P a.length (Ab pC a))(o:a.length<=600)(B:i<=a.length)(c:base<=w.heap.size)(s:P.ownBlock≠some f)(p:w.heap[f]?=some (.cells #[.string x.name,.string x.sum] 137 (0,0))):
 Calls prog 205 #[P,Zg i,Za f 1 1] w fun e m=>∃k,e=.returned k/\m.ownsRow base 137 2 k (a.length+1) (Ab pC (a.take i++[x]++a.drop i))/\w.grownBy m P.ownBlock/\(k.ownBlock=P.ownBlock∨k.ownBlock=some w.heap.size):=by
 rcases Nat.lt_or_ge i a.length with h|h
 ·rcases l.2 with⟨e,C⟩|⟨g,j,t,e,r,A,u,v,y,z⟩
  ·omega
  ·subst e;rcases Nat.lt_or_ge j (a.length+1)with n|n
   ·refine Calls.mono (LF g j i a x f w base l o h n c p) ?_;rintro e m ⟨G,rfl,q,d⟩;exact⟨_,rfl,q,⟨d.os,d.tape,d.output,d.size,fun b r _=>d.block b r (by simp)⟩,.inr rfl⟩
   ·refine Calls.mono (KT g j i a x f w base l o h n (fun e=>s (by rw[e];rfl)) p) ?_;rintro e m ⟨rfl,q,d⟩;exact⟨_,rfl,q,d,.inl rfl⟩
 ·obtain rfl:i=a.length:=by omega
  rw[List.take_length,List.drop_length,List.append_nil];exact MP P a x f w base l o c p
end
theorem Wq(base d m:Nat)(O P L:Value)(q j given ae:Int)(o:List Kd)(c:List Pd)(u:List Ld)(n s:Zi)(w:Zh)(h:DU w base d m O P L q j given ae o c u)(W:∀k∈o,(k.sum.size:Int)=q)(F:Ax o s)(hl:c.length<100)(t:c.Pairwise (fun a b=>less a.name b.name=true))(X:¬∃x∈c,x.name=n):
 Calls prog 175 #[Yz d,.string n,.string s] w fun e w'=>e=.returned (.tuple #[])/\∃P',DU w' base d m O P' L q j given ae o (Bl c n s) u/\Tn (d::P.ownBlock.toList) w w':=by
 obtain⟨p,g,zC⟩:=As h.dr.ci;subst zC;have HN:=Yx (Em base d m O (.slice p c.length g) L q j given ae o c u s w h.dr W F);have Z:=Yx h;have V:=Yx t;have K:Hid (¬∃x∈c,x.name=n):=X;have zH:((c.length:Int)==100)=false:=by simp;omega
 clear h t X W F;go_enter func175,ntmps175;go_wp2_with fail;refine Calls.mono HN.o ?_;rintro e w1 ⟨rfl,G⟩;have M:=Z.o.below G;have HS:=Yx (Jg base d m O (.slice p c.length g) L q j given ae o c u n w1 M (by omega) V.o);clear HN;go_wp2_with fail;refine Calls.mono HS.o ?_;rintro e C ⟨i,rfl,T,N⟩;have D:decide (∃x,c[i]?=some x/\x.name=n)=false:=by rw[decide_eq_false_iff_not];rintro⟨x,hx,hn⟩;exact K.o ⟨x,Zs hx,hn⟩
 have HE:Hid (Bl c n s=c.take i++[⟨n,s⟩]++c.drop i):=Pb T K.o;have y:=M.below N;have zG:=Yx y;have HB:Hid (Zz w C):=G.trans (N.mono G.size);obtain⟨c6,_⟩:=y.dr.box 6 _ rfl;obtain⟨A,U⟩:∃A,A=C.alloc (.cells #[.string n,.string s] 137):=⟨_,rfl⟩;have Y:=(AG U).1;have z:=y.below Y;have v:=Yx z;have zA:Hid (Zz C A):=Y;have zF:=T.le
 have r:=MQ (.slice p c.length g) i c ⟨n,s⟩ C.heap.size A base z.dr.ci (by omega) zF z.lo (fun e=>Nat.lt_irrefl _ (Ac y.dr.ci e).2) (by rw[U];exact heap_alloc_new C _);have HI:=Yx r;have HA:=Yx U;obtain⟨e6,_⟩:=z.dr.box 6 _ rfl;rw[D];clear D M y G N Z HS K V T r z Y U;go_wp2_with fail;rw[←HA.o];refine Calls.mono HI.o ?_;rintro e J ⟨P',rfl,S,Q,f⟩;obtain⟨H,I,zE⟩:=As S;subst zE
 have R:∀b,(Value.slice p c.length g).ownBlock=some b->b≠d:=fun b B=>((CZ v.o.dr.ap).2.2.1 b B).1;have E:∀b,(Value.slice H (c.length+1) I).ownBlock=some b->b≠d:=fun b B=>by
  rcases f with f|f
  ·exact R b (f▸B)
  ·rw[f]at B;have:=v.o.dr.box.lt;cases B;omega
 have l:Aa J d [Zg q,.map (some m),Zg j,Zg given,Zg ae,O,.slice p c.length g,L]:=Aa.same v.o.dr.box (Q.block d v.o.dr.box.lt (fun e=>R d e.symm rfl));obtain⟨f6,k6⟩:=l 6 _ rfl;have hK:∃zB,DU (J.setCell (Ze d 6) (.slice H (c.length+1) I)) base d m O zB L q j given ae o (Bl c n s) u/\Tn (d::(Value.slice p c.length g).ownBlock.toList) w (J.setCell (Ze d 6) (.slice H (c.length+1) I)):=by
  have t1:Tn (d::(Value.slice p c.length g).ownBlock.toList) A (J.setCell (Ze d 6) (.slice H (c.length+1) I)):=
   ((Ct Q).mono (fun b B=>List.mem_cons_of_mem _ B)).trans ((En J d 6 _).mono (by simp))
  refine⟨_,v.o.gn t1 (l.set 6 _) ?_ ?_,((Tn.of HB.o).trans (Tn.of zA.o)).trans t1⟩
  ·have hlen:(Bl c n s).length=c.length+1:=by rw[HE.o];simp;omega
   rw[hlen,HE.o];exact Bk S E 6 _
  ·rcases f with f|f
   ·exact .inl f
   ·exact .inr ⟨_,f,Zx⟩
 have HK:=Yx hK;clear hK S Q l e6 f R E;go_wp2
 go_end0
 exact⟨rfl,HK.o⟩
theorem Ws{d m n:Nat}{O P L a:Option Nat}(h:(d::m::(O.toList++(P.toList++L.toList))).Nodup)(e:∀b∈d::m::(O.toList++(P.toList++L.toList)),b<n)(c:a=O∨∃g,a=some g/\n<=g):(d::m::(a.toList++(P.toList++L.toList))).Nodup:=by
 rcases c with rfl|⟨g,rfl,f⟩
 ·exact h
 ·cases O<;>cases P<;>cases L<;>simp_all<;>grind
theorem DU.newK{w j:Zh}{base d m:Nat}{O P L:Value}{l k given ae:Int}{z:List Kd}{u:List Pd}{t:List Ld}(h:DU w base d m O P L l k given ae z u t)(s:Tn (d::m::O.ownBlock.toList) w j){c:Value}{i:List Kd}{a:Int}(o:Aa j d [Zg l,.map (some m),Zg k,Zg given,Zg a,c,P,L])(y:∃n f,n<=1000000+a.toNat/\AV j 190 m n f/\BQ j base (vB d m c P L) l i f)(x:j.ownsRow base 190 8 c i.length (AA (i.map (·.sum))))(v:c.ownBlock=O.ownBlock∨∃g,c.ownBlock=some g/\w.heap.size<=g):DU j base d m c P L l k given a i u t:=by
 obtain⟨A,p,q,r⟩:=CZ h.dr.ap;refine⟨⟨o,y,x,Ai h.dr.ci (fun g b=>s.block g (Ac h.dr.ci b).2 (fun e=> ?_)),Ai h.dr.ck (fun g b=>s.block g (Ac h.dr.ck b).2 (fun e=> ?_)),h.dr.bd,h.dr.bm,Ws h.dr.ap h.dr.cg v⟩⟩
 ·rcases List.mem_cons.1 e with e|e
  ·exact(q g b).1 e
  ·rcases List.mem_cons.1 e with e|e
   ·exact(q g b).2.1 e
   ·exact(p g (by simpa using e)).2.2.1 b
 ·rcases List.mem_cons.1 e with e|e
  ·exact(r g b).1 e
  ·rcases List.mem_cons.1 e with e|e
   ·exact(r g b).2 e
   ·exact(p g (by simpa using e)).2.2.2 b
theorem LG{a:List Kd}{x:Kd}{i:Nat}(h:Fi (a.map (·.sum)) x.sum i):(a.map (·.sum)).take i++[x.sum]++(a.map (·.sum)).drop i=(Dz a x).map (·.sum):=by rw[QU h];simp[List.map_take,List.map_drop]
theorem BQ.snoc{w:Zh}{base:Nat}{V:List Nat}{b:Int}{i:List Kd}{f:Lit->Option Value}(h:BQ w base V b i f){x:Kd}{g:Zk}{rc:Nat}(r:(x.sum.size:Int)=b)(q:b<=8)(o:De w base V g x.refs):BQ w base V b (i++[x]) (upd f (keyL x.sum) (Ee x g rc)):=by
 intro s p;by_cases he:keyL s=keyL x.sum
 ·have:s=x.sum:=key_inj he (by omega) (by omega);subst this;exact .inr ⟨x,g,rc,by simp,rfl,Dm _ _ _,o⟩
 ·rw[Dg _ _ he];have j:x.sum≠s:=fun e=>he (by rw[e]);rcases h s p with⟨c,d⟩|⟨u,k,l,c,d,m,n⟩
  ·refine .inl ⟨c,fun⟨u,a,e⟩=> ?_⟩;rcases List.mem_append.1 a with a|a
   ·exact d ⟨u,a,e⟩
   ·simp at a;subst a;exact j e
  ·exact .inr ⟨u,k,l,by simp[c],d,m,n⟩
theorem BQ.same{w:Zh}{base:Nat}{V:List Nat}{i:Int}{g a:List Kd}{f:Lit->Option Value}(h:BQ w base V i g f)(d:∀u,u∈a↔u∈g):BQ w base V i a f:=by
 intro s j;rcases h s j with⟨b,c⟩|⟨u,l,m,b,c⟩
 ·exact .inl ⟨b,fun⟨k,hk,e⟩=>c ⟨k,(d k).1 hk,e⟩⟩
 ·exact .inr ⟨u,l,m,(d u).2 b,c⟩
def PX(w:Zh)(base:Nat)(V:List Nat)(m:Nat)(wd ae:Int)(ks:List Kd):Prop:=∃n f,n<=1000000+ae.toNat/\AV w 190 m n f/\BQ w base V wd ks f
theorem PX.an{w g:Zh}{base m:Nat}{U V:List Nat}{i ae:Int}{e:List Kd}(h:PX w base V m i ae e)(d:Tn U w g)(l:∀b∈U,b∈V)(o:m∉U):PX g base V m i ae e:=by obtain⟨n,f,j,c,k⟩:=h;exact⟨n,f,j,AV.same c (d.block m c.lt o),k.move d (fun b a=> .inl (l b a)) (fun b a=> .inl a)⟩
theorem HN.below{w b:Zh}{m N:Nat}(h:HN w m N)(d:Zz w b):HN b m N:=by obtain⟨n,f,c,a⟩:=h;exact⟨n,f,c,a.aj d a.lt⟩
theorem HN.same{w a:Zh}{m N:Nat}(h:HN w m N)(d:a.heap[m]?=w.heap[m]?):HN a m N:=by obtain⟨n,f,b,c⟩:=h;exact⟨n,f,b,AV.same c d⟩
theorem Wt(base d m:Nat)(O P L:Value)(E G given ae:Int)(a:List Kd)(ps:List Pd)(ls:List Ld)(s text:Zi)(refs:Zl)(B:Zk)(rc:Nat)(w:Zh)(h:DU w base d m O P L E G given ae a ps ls)(zC:Fa E a)(yG:(s.size:Int)=E)(hl:a.length<600)(yK:0<=ae)(yL:ae<1000000000)(hr:De w base (vB d m O P L) B refs):
 Calls prog 203 #[Yz d,.string s,.agg #[.string text,.slice B refs.length rc]] w fun e w'=>e=.returned (.tuple #[])/\(∃O',DU w' base d m O' P L E G given (ae+1) (Dz a ⟨s,ae+1,text,refs⟩) ps ls/\(O'.ownBlock=O.ownBlock∨∃g,O'.ownBlock=some g/\w.heap.size<=g))/\Tn (d::m::O.ownBlock.toList) w w':=by
 obtain⟨k,l,zH⟩:=As h.dr.ord;subst zH;obtain⟨W0,zB⟩:∃W,W=w.alloc (.cells #[.string text,.slice B refs.length rc] 58):=⟨_,rfl⟩;have Z:=(AG zB).1;have x0:=(AG zB).2.2;have y:=h.below Z;obtain⟨X,hX⟩:∃X,X=W0.setCell (Ze d 4) (Zg (ae+1)):=⟨_,rfl⟩;have yN:d<w.heap.size:=h.dr.box.lt;have tX:Tn [d] W0 X:=by rw[hX];exact En _ _ _ _
 have N:Aa X d [Zg E,.map (some m),Zg G,Zg given,Zg (ae+1),.slice k a.length l,P,L]:=by rw[hX];exact y.dr.box.set 4 _
 have z:=CZ y.dr.ap;have xX:Aa X w.heap.size [.string text,.slice B refs.length rc]:=Aa.same x0 (tX.block _ x0.lt (by simp;omega));have oX:X.ownsRow base 190 8 (.slice k a.length l) a.length (AA (a.map (·.sum))):=Ai y.dr.ord (fun g hg=>tX.block g (Ac y.dr.ord hg).2 (by simp;exact(z.2.1 g hg).1))
 have uX:PX X base (vB d m (.slice k a.length l) P L) m E ae a:=PX.an y.dr.map tX (by intro b c;simp at c;subst c;simp[vB]) (by simp;exact fun e=>z.1 e.symm);have rX:De X base (vB d m (.slice k a.length l) P L) B refs:=(hr.move (U:=[]) (Tn.of Z) (by simp) (fun b c=> .inl c)).move tX (by intro b c;simp at c;subst c;exact .inl (by simp[vB])) (fun b c=> .inl c);obtain⟨c4,k4⟩:=y.dr.box 4 _ rfl
 obtain⟨c5,_⟩:=y.dr.box 5 _ rfl;have yP:((a.length:Int)==600)=false:=by simp;omega
 have yM:(ae==1000000000)=false:=by simp;omega
 have zP:=Yx zB;have HX:=Yx hX;have T:=Yx h;have HP:=Yx (Zn N (Zn xX (Zn oX (Zn uX rX))));have HT:Hid (Tn [d] w X):=(Tn.of Z).trans tX;clear zB hX y h hr x0 tX N xX oX uX rX Z;go_enter func203,ntmps203;go_upto_region 1 with fail;rw[←zP.o];go_wp2_with fail;rw[←HX.o];clear HX zP;refine(Lt s X).mono ?_;rintro e o ⟨rfl,H⟩;obtain⟨K,V⟩:∃W,W=o.alloc (.cells (Yw (kB s)) 190):=⟨_,rfl⟩;have zS:=(AG V).1
 have D:Below X.heap.size X K:=H.trans (zS.mono H.size);have kK:Aa K o.heap.size (Am s):=by rw[V];exact Aa.new o (Am s) 190
 obtain⟨N,xX,oX,uX,rX⟩:=HP.o;have yJ:base<=X.heap.size:=Zm T.o.lo HT.o.size;have zA:=N.below D;have xK:=xX.below D;have oK:=Ae oX D;have rK:De K base (vB d m (.slice k a.length l) P L) B refs:=rX.move (U:=[]) (Tn.of D) (by simp) (fun b c=> .inl c);obtain⟨n1,f,zY,zT,hH⟩:=PX.an uX (U:=[]) (Tn.of D) (by simp) (by simp);have hM:=zT;have z:=CZ T.o.dr.ap;have yQ:m<K.heap.size:=hM.lt
 obtain⟨t,zM,Q,F⟩:=(hM.aj (Below.refl K.heap.size K).drew hM.lt).put keyed underlying152 (val:=Ee ⟨s,ae+1,text,refs⟩ B rc) (by unfold maxLen;omega) (EC s);have n:K.grownBy t (some m):=CY F;have kl:o.heap.size<K.heap.size:=kK.lt;have yR:m<w.heap.size:=by obtain⟨_,_,_,yA,_⟩:=T.o.dr.map;exact yA.lt
 have yS:w.heap.size<o.heap.size:=by have h1:=H.size;have h2:=xX.lt;omega
 have k5:Aa t o.heap.size (Am s):=Aa.cw (v:=.int .u8 (kB s 0)) kK n (by omega);have x5:Aa t d _:=Aa.cw zA n (fun e=>z.1 e.symm);have t5:Aa t w.heap.size [.string text,.slice B refs.length rc]:=Aa.cw xK n (by omega)
 have P4:K.drew.cell? (Ze d 1)=some (.map (some m))/\K.drew.cell? (Ze d 4)=some (Zg (ae+1))/\K.drew.cell? (Ze (w.heap.size) 0)=some (.string text)/\K.drew.cell? (Ze (w.heap.size) 1)=some (.slice B refs.length rc)/\_:=⟨(zA 1 _ rfl).1,(zA 4 _ rfl).1,(xK 0 _ rfl).1,(xK 1 _ rfl).1,GM (w:=K.drew) kK⟩
 have P5:t.cell? (Ze d 1)=some (.map (some m))/\t.cell? (Ze d 4)=some (Zg (ae+1))/\t.cell? (Ze (w.heap.size) 0)=some (.string text)/\t.cell? (Ze (w.heap.size) 1)=some (.slice B refs.length rc)/\_:=⟨(x5 1 _ rfl).1,(x5 4 _ rfl).1,(t5 0 _ rfl).1,(t5 1 _ rfl).1,GM k5⟩
 have o5:t.ownsRow base 190 8 (.slice k a.length l) a.length (AA (a.map (·.sum))):=World.ownsRow.kept oK n (.inr (fun e=>(z.2.1 m e).2.1 rfl));have M:=XJ base d m k l P L E G given (ae+1) a s t x5 o5 (by omega) (by have:=zC.w8;omega) (fun x hx=>by have:=zC.sz x hx;omega) zC.dg;unfold Cm CO at M zM;unfold Ee at zM;have HQ:=Yx M
 have I:=Yx (Zn x5 (Zn o5 (Zn k5 (Zn Q (Zn n (Zn hH (Zn rK (Zn D zY))))))));have HK:=Yx V;clear N xX oX uX rX zA xK oK rK zT hM M V HP x5 o5 k5 Q F n hH t5 kK D zS c4 k4 c5;go_upto_region 5 with fail;rw[←HK.o];clear HK
 go_region_held3 (fun X=>X.cell? (Ze d 1)=some (.map (some m))/\X.cell? (Ze d 4)=some (Zg (ae+1))/\X.cell? (Ze (w.heap.size) 0)=some (.string text)/\X.cell? (Ze (w.heap.size) 1)=some (.slice B refs.length rc)/\(X.cell? (Ze (o.heap.size) 0)=some (.int .u8 (kB s 0))/\X.cell? (Ze (o.heap.size) 1)=some (.int .u8 (kB s 1))/\X.cell? (Ze (o.heap.size) 2)=some (.int .u8 (kB s 2))/\X.cell? (Ze (o.heap.size) 3)=some (.int .u8 (kB s 3))/\X.cell? (Ze (o.heap.size) 4)=some (.int .u8 (kB s 4))/\X.cell? (Ze (o.heap.size) 5)=some (.int .u8 (kB s 5))/\X.cell? (Ze (o.heap.size) 6)=some (.int .u8 (kB s 6))/\X.cell? (Ze (o.heap.size) 7)=some (.int .u8 (kB s 7))))
  (first|with_reducible exact P4|with_reducible exact P5)
  (fail)
 obtain⟨q0,q1,q2,q3,q4,q5,q6,q7⟩:=GM I.o.2.2.1;clear P4 P5 zM;go_wp2_with fail;refine Calls.mono HQ.o ?_;rintro e C ⟨i,rfl,zK,q⟩;have zE:=Aa.below I.o.1 q;have zW:=Aa.below (v:=.int .u8 (kB s 0)) I.o.2.2.1 q;have zJ:C.ownsRow base 190 8 (.slice k a.length l) (a.map (·.sum)).length (Ab Am (a.map (·.sum))):=by rw[List.length_map];exact Ae I.o.2.1 q
 have yE:i<=a.length:=by have:=zK.le;rwa[List.length_map]at this
 obtain⟨A,hA⟩:∃A,A=C.drew.alloc (.cells (Am s).toArray 190):=⟨_,rfl⟩;have J:Below C.heap.size C A:=by rw[hA];exact(Below.refl _ _).drew.alloc (Zx) _
 have zN:base<=C.heap.size:=by have h1:=I.o.2.2.2.2.1.size;have h2:=q.size;have h3:=I.o.2.2.2.2.2.2.2.1.size;omega
 have r:=MN (.slice k a.length l) i (a.map (·.sum)) s C.heap.size A base (Ae zJ J) (by rw[List.length_map];omega) (by rw[List.length_map];exact yE) (Zm zN J.size) (fun e=>Nat.lt_irrefl _ (Ac zJ e).2) (by rw[hA];exact heap_alloc_new C.drew _);rw[List.length_map,hA]at r;have HI:=Yx r;have M:=Yx zK;have xA:=zE.below J;have yC:d<C.heap.size:=zE.lt;obtain⟨y5,_⟩:=zE 5 _ rfl
 obtain⟨r0,r1,r2,r3,r4,r5,r6,r7⟩:=GM zW;have H6:=Yx (Zn q (Zn J xA));have zF:=Yx hA;have zI:∀b,(Value.slice k a.length l).ownBlock=some b->b≠d/\b≠m:=fun b c=>⟨(z.2.1 b c).1,(z.2.1 b c).2.1⟩;have yD:d<A.heap.size:=xA.lt;clear q0 q1 q2 q3 q4 q5 q6 q7 zK r HQ zJ zE zW;go_upto_region 7 with fail;have zR:Below C.heap.size C (C.alloc (.cells (Yw (kB s)) 190)):=Zy
 have a5:=(zR.cell (p:=⟨d,5,none⟩) yC).trans y5;clear xA hA zR;unfold Am CO at HI
 go_region_law (first
  |(go_simp;go_at_call 223;refine Calls.mono HI.o ?_;rintro e Y ⟨O',rfl,S,zV,zX⟩;obtain⟨oa',oc',zH⟩:=As S;subst zH;have R:A.grownBy Y (Value.slice k a.length l).ownBlock:=(by rw[zF.o];exact zV);have x7:=Aa.same H6.o.2.2 (R.block d yD (fun e=>(zI d e.symm).1 rfl));obtain⟨f5,k5⟩:=x7 5 _ rfl))
 all_goals
  have j:(Value.slice oa' (a.length+1) oc').ownBlock=(Value.slice k a.length l).ownBlock∨(Value.slice oa' (a.length+1) oc').ownBlock=some A.heap.size:=by rw[zF.o];exact zX
  have H7:=Yx (Zn x7 (Zn R (Zn j S)));clear zX zV R x7 S j HI a5 r0 r1 r2 r3 r4 r5 r6 r7 y5 zF
  have V:(∃zG,DU (Y.setCell (Ze d 5) (.slice oa' (a.length+1) oc')) base d m zG P L E G given (ae+1) (Dz a ⟨s,ae+1,text,refs⟩) ps ls/\(zG.ownBlock=(Value.slice k a.length l).ownBlock∨∃g,zG.ownBlock=some g/\w.heap.size<=g))/\Tn (d::m::(Value.slice k a.length l).ownBlock.toList) w (Y.setCell (Ze d 5) (.slice oa' (a.length+1) oc')):=by
   obtain⟨x5,o5,yT,Q,F,hH,rK,D,zY⟩:=I.o;obtain⟨q,J,xA⟩:=H6.o;obtain⟨x7,R,j,S⟩:=H7.o;have t1:Tn (d::m::(Value.slice k a.length l).ownBlock.toList) w X:=HT.o.mono (by simp)
   have t2:Tn (d::(Value.slice k a.length l).ownBlock.toList) t (Y.setCell (Ze d 5) (.slice oa' (a.length+1) oc')):=(((Tn.of q).trans (Tn.of J)).trans ((Ct R).mono (fun b c=>List.mem_cons_of_mem _ c))).trans ((En Y d 5 _).mono (by simp))
   have t3:Tn (d::m::(Value.slice k a.length l).ownBlock.toList) K (Y.setCell (Ze d 5) (.slice oa' (a.length+1) oc')):=(Tn.grown F (by simp)).trans (t2.mono (by intro b c;simp at c ⊢;rcases c with c|c<;>simp[c]));have tt:=(t1.trans (Tn.of D)).trans t3;have yI:w.heap.size<=K.heap.size:=Zm HT.o.size D.size;have yH:w.heap.size<=A.heap.size:=Zm (Zm (Zm yI F.size) q.size) J.size
   have yO:∀b∈d::m::(Value.slice k a.length l).ownBlock.toList,base<=b:=by
    intro b c;rcases List.mem_cons.1 c with rfl|c
    ·exact T.o.dr.bd
    ·rcases List.mem_cons.1 c with rfl|c
     ·exact T.o.dr.bm
     ·exact(Ac T.o.dr.ord (by simpa using c)).1
   have yF:(Y.setCell (Ze d 5) (.slice oa' (a.length+1) oc')).heap[m]?=t.heap[m]?:=t2.block m Q.lt (fun e=>by
    rcases List.mem_cons.1 e with e|e
    ·exact z.1 e.symm
    ·exact(zI m (by simpa using e)).2 rfl)
   have yB:=AV.same Q yF;have zU:(Value.slice oa' (a.length+1) oc').ownBlock=(Value.slice k a.length l).ownBlock∨∃g,(Value.slice oa' (a.length+1) oc').ownBlock=some g/\w.heap.size<=g:=by
    rcases j with j|j
    ·exact .inl j
    ·exact .inr ⟨_,j,yH⟩
   have zO:∀b,(Value.slice oa' (a.length+1) oc').ownBlock=some b->b≠d:=fun b c=>by
    rcases j with j|j
    ·exact(zI b (j▸c)).1
    ·rw[j]at c;cases c;omega
   refine⟨⟨_,T.o.newK tt (x7.set 5 _) ⟨n1+1,_,by omega,yB,?_⟩ ?_ zU,zU⟩,tt⟩
   ·refine((hH.snoc (x:=⟨s,ae+1,text,refs⟩) (rc:=rc) yG zC.w8 rK).same (fun u=>GR)).move t3 (fun b c=> .inl ?_) (fun b c=> ?_)
    ·unfold vB;simp only[List.mem_cons,List.mem_append]at c ⊢;rcases c with e|e|e
     ·exact .inl e
     ·exact .inr (.inl e)
     ·exact .inr (.inr (.inl e))
    ·unfold vB at c ⊢;simp only[List.mem_cons,List.mem_append]at c ⊢;rcases c with e|e|e|e|e
     ·exact .inl (.inl e)
     ·exact .inl (.inr (.inl e))
     ·rcases j with j|j
      ·rw[j]at e;exact .inl (.inr (.inr (.inl e)))
      ·rw[j]at e;simp at e;exact .inr (by have h1:=F.size;have h2:=q.size;have h3:=J.size;omega)
     ·exact .inl (.inr (.inr (.inr (.inl e))))
     ·exact .inl (.inr (.inr (.inr (.inr e))))
   ·rw[NT,←LG (x:=⟨s,ae+1,text,refs⟩) M.o];exact Bk S zO 5 _
  have zZ:=Yx V;clear V H7 H6 I;go_wp2
  go_end0
  exact⟨rfl,zZ.o⟩
theorem UC(base d m:Nat)(O P L:Value)(x q given ae:Int)(a:List Kd)(t:List Pd)(r:List Ld)(s text:Zi)(k:Zk)(n l:Nat)(w:Zh)(h:DU w base d m O P L x q given ae a t r)(j:a.length=600∨ae=1000000000):
 Calls prog 203 #[Yz d,.string s,.agg #[.string text,.slice k n l]] w fun e u=>e=.panicked [{v:=ay 4 ⟨#[]⟩ ⟨#[]⟩,recovered:=false}]/\Zz w u:=by
 obtain⟨B,C,o⟩:=As h.dr.ord;subst o;obtain⟨z,c⟩:∃W,W=w.alloc (.cells #[.string text,.slice k n l] 58):=⟨_,rfl⟩;have b:=(AG c).1;have g:=h.below b;obtain⟨c4,A⟩:=Aa.c2 g.dr.box 4 5;have f:=Yx c;have i:=Yx b;clear c g h b;by_cases hk:a.length=600
 ·have p:((a.length:Int)==600)=true:=by simp;omega
  clear j hk;go_enter func203,ntmps203;go_upto_region 1 with fail;rw[←f.o];go_wp2;exact⟨rfl,rfl,i.o⟩
 ·have p:((a.length:Int)==600)=false:=by simp;omega
  have y:(ae==1000000000)=true:=by simp;omega
  clear j hk;go_enter func203,ntmps203;go_upto_region 1 with fail;rw[←f.o];go_wp2;exact⟨rfl,rfl,i.o⟩
end Go.Proofs.YtlhhpofjkgmbeaaGreatDoor
