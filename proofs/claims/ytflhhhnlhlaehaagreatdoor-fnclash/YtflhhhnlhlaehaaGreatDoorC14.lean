import Derived.Test.YtflhhhnlhlaehaaGreatDoorC13
set_option maxRecDepth 100000
set_option maxHeartbeats 16000000
namespace Go.Proofs.YtflhhhnlhlaehaaGreatDoor
open Go.ChangeShapes Go.WideShapes Go.ChangeAt Go.RowKit _root_.Go.Proofs.Tryz
section
open Go.ChangeShapes Go.WideShapes Go.ChangeAt Go.RowKit Go.Lib
theorem Eo:∃i:TypeInfo,prog.info? 108=some i/\i.zero=some (.agg #[.string ⟨#[]⟩,.string ⟨#[]⟩])/\i.size=2/\i.bytes=32:=by
 obtain⟨i0,hi,h0,h1,h2⟩:=info_parts Jf;exact⟨i0,hi,h0,h1,h2⟩
theorem Fv {w:World} {vb:Nat} {x:Pd} (hv:w.heap[vb]?=some (.cells #[.string x.name,.string x.sum] 108 (0,0))):∀j u,(Ab pC [x])[j]?=some u->w.cell? ⟨vb,j,none⟩=some u:=by
 intro j u hu;rw[Ab,List.flatMap_cons,List.flatMap_nil,List.append_nil] at hu;simp only[World.cell?,hv];rw[←hu];simp[pC]
theorem Kr (P:Value) (ss:List Pd) (x:Pd) (vb:Nat) (w:World) (base:Nat) (ho:w.ownsRow base 108 2 P ss.length (Ab pC ss)) (hl:ss.length<=600) (zB:base<=w.heap.size) (hv:w.heap[vb]?=some (.cells #[.string x.name,.string x.sum] 108 (0,0))):
 Calls prog 125 #[P,.int .i64 ss.length,.slice (some ⟨vb,0,none⟩) 1 1] w fun e w'=>∃P',e=.returned P'/\w'.ownsRow base 108 2 P' (ss.length+1) (Ab pC (ss++[x]))/\w.grownBy w' P.ownBlock/\(P'.ownBlock=P.ownBlock∨P'.ownBlock=some w.heap.size):=by
 obtain⟨i0,zA,zC,zD,zE⟩:=Eo;obtain⟨v',w',hr,h2,h3,_,h5⟩:=run_append_own_at (P:=prog) w base 29 29 108 i0 _ 2 32 underlying29 zA zC zD zE rfl (by decide) P ss.length (Ab pC ss) ho ⟨vb,0,none⟩ 1 1 (Ab pC [x]) (by rw[Bb Bp];rfl) (fun j u hu=>by rw[Go.WideShapes.add_plain,Nat.zero_add];exact Fv hv j u hu) (Hr _) (by unfold maxLen;omega) (by omega) zB;rw[←AT] at h2
 have HO:Hid _:=And.intro h2 (And.intro h3 h5);clear h2 h3 h5;rcases ho.2 with⟨e,zF⟩|⟨g,cap,zG,e,hb,hg,h1,h2,h3,h4⟩
 ·subst e
  rw[zF] at HO ⊢;clear ho hv zA zC zD zE;go_enter func125,ntmps125;go_wp2_with (at_builtin;refine Lib.wpList_append_run _ rfl _ _ _ _ rfl _ _ rfl rfl _ _ hr ?_);go_ret;exact⟨v',rfl,HO.o⟩
 ·subst e
  clear ho hv zA zC zD zE hg h3 h4;unfold maxLen at h2;by_cases hc:cap=ss.length
  ·subst hc
   go_enter func125,ntmps125;go_wp2_with (at_builtin;refine Lib.wpList_append_run _ rfl _ _ _ _ rfl _ _ rfl rfl _ _ hr ?_);go_ret;exact⟨v',rfl,HO.o⟩
  ·go_enter func125,ntmps125
   go_wp2_with (at_builtin;refine Lib.wpList_append_run _ rfl _ _ _ _ rfl _ _ rfl rfl _ _ hr ?_);go_ret;exact⟨v',rfl,HO.o⟩
theorem II (g cap i:Nat) (ss:List Pd) (x:Pd) (vb:Nat) (w:World) (base:Nat) (ho:w.ownsRow base 108 2 (.slice (some ⟨g,0,none⟩) ss.length cap) ss.length (Ab pC ss)) (hl:ss.length<=600) (hi:i<ss.length) (zG:ss.length+1<=cap) (zM:vb≠g) (hv:w.heap[vb]?=some (.cells #[.string x.name,.string x.sum] 108 (0,0))):
 Calls prog 125 #[.slice (some ⟨g,0,none⟩) ss.length cap,.int .i64 i,.slice (some ⟨vb,0,none⟩) 1 1] w fun e w'=>e=.returned (.slice (some ⟨g,0,none⟩) (ss.length+1) cap)/\w'.ownsRow base 108 2 (.slice (some ⟨g,0,none⟩) (ss.length+1) cap) (ss.length+1) (Ab pC (ss.take i++[x]++ss.drop i))/\w.grownBy w' (some g):=by
 obtain⟨i0,zB,zS,zH,zT⟩:=Eo;obtain⟨zC,hg,zZ,zP,zK,zQ⟩:∃zC,w.heap[g]?=some (.cells zC 108 (0,0))/\ss.length<=cap/\cap<=maxLen/\zC.size=cap *2/\zC.toList.take (ss.length *2)=Ab pC ss:=by
  rcases ho.2 with⟨e,_⟩|⟨g',zO,zC,e,hb,hg,h1,h2,h3,h4⟩
  ·cases e
  ·cases e;exact⟨zC,hg,h1,h2,h3,h4⟩
 have zN:=Bb Bp ss;have zJ:(Ab pC [x]).length=2:=by rw[Bb Bp];rfl
 have zL:((Ab pC ss).drop (i *2)).length=(ss.length -i) *2:=by rw[List.length_drop,zN];omega
 have zA:∀j,j<cap *2->(w.cell? ⟨g,j,none⟩).isSome=true:=fun j hj=>by
  simp only[World.cell?,hg];rw[Array.getElem?_eq_getElem (by omega)];rfl
 have zR:∀lb cb,(callFunc 155 #[.slice (some ⟨vb,0,none⟩) 1 1,.slice (some ⟨g,(i+1) *2,none⟩) lb cb]).run prog w=.ok (.value (.bool false)) w:=fun lb cb=>by
  rw[run_callFunc_extern func155 (by kernel_rfl) (by kernel_rfl) (by kernel_rfl) (e:=Extern.SlicesOverlaps.overlaps #[29,29] #[4]) (by kernel_rfl),
   Lib.run_overlaps_apart w 29 4 108 underlying29 2 (fun w=>by simp[sizeOf,typeInfo,zB,zH]) ⟨vb,0,none⟩ ⟨g,(i+1) *2,none⟩ 1 1 lb cb zM 108 108 (#[.string x.name,.string x.sum]:Array Value).size zC.size (by simp only[World.shape?,hv]) (by simp only[World.shape?,hg]) (by rw[zK];omega) (by simp only[World.frozen?,hv];rfl) (by simp[World.frozen?,hv])]
  rfl
 have zE:∀ty dc sc,(Builtin.copy_ #[29,29] ty #[.slice (some ⟨g,(i+1) *2,none⟩) (ss.length+1 -(i+1)) dc,.slice (some ⟨g,i *2,none⟩) (ss.length+1 -i) sc]).run prog w.drew=.ok (goInt (Nat.min (ss.length+1 -i) (ss.length+1 -(i+1)))) (w.drew.setCells g ((i+1) *2) ((Ab pC ss).drop (i *2))):=fun ty dc sc=>
  BG w.drew 29 29 ty 108 i0 2 g ((i+1) *2) (ss.length+1 -(i+1)) dc ⟨g,i *2,none⟩ (ss.length+1 -i) sc ((Ab pC ss).drop (i *2)) underlying29 zB zH (by rw[zL];congr 1;show _=min _ _;omega)
   (fun j v hj=>by
     rw[Go.WideShapes.add_plain];rw[List.getElem?_drop] at hj;have:=(Ut hj).1;exact(ho.cellAt _ (by omega)).trans hj)
   (fun j hj=>zA _ (by omega)) (fun j _=>ho.frozenAt _) (fun v hv=>Hr _ v (List.mem_of_mem_drop hv))
 obtain⟨W1,zD⟩:∃W1,W1=w.drew.setCells g ((i+1) *2) ((Ab pC ss).drop (i *2)):=⟨_,rfl⟩;have zI:∀ty dc,(Builtin.copy_ #[29,29] ty #[.slice (some ⟨g,i *2,none⟩) (ss.length+1 -i) dc,.slice (some ⟨vb,0,none⟩) 1 1]).run prog W1=.ok (goInt (Nat.min 1 (ss.length+1 -i))) (W1.setCells g (i *2) (Ab pC [x])):=fun ty dc=>
  BG W1 29 29 ty 108 i0 2 g (i *2) (ss.length+1 -i) dc ⟨vb,0,none⟩ 1 1 (Ab pC [x]) underlying29 zB zH (by rw[zJ,show Nat.min 1 (ss.length+1 -i)=1 from Nat.min_eq_left (by omega),Nat.one_mul])
   (fun j v hj=>by
     rw[Go.WideShapes.add_plain,Nat.zero_add,zD,World.cell?_setCells_out g _ _ _ _ (fun h _=>absurd h zM)];exact Fv hv j v hj)
   (fun j hj=>by rw[zD];exact Fj g ((Ab pC ss).drop (i *2)) ((i+1) *2) w.drew (fun t ht=>zA _ (by omega)) (i *2+j) (zA _ (by omega))) (fun j _=>by rw[zD,World.frozen?_setCells];exact ho.frozenAt _) (Hr _)
 have zF:(W1.setCells g (i *2) (Ab pC [x])).ownsRow base 108 2 (.slice (some ⟨g,0,none⟩) (ss.length+1) cap) (ss.length+1) (Ab pC (ss.take i++[x]++ss.drop i))/\w.grownBy (W1.setCells g (i *2) (Ab pC [x])) (some g):=by
  refine⟨?_,?_⟩
  ·rw[AT,AT,←El Bp ss i (by omega),←DH Bp ss i (by omega),zD]
   exact JT (w:=w.drew) (Ag ho ((Below.refl _ _).drew)) (by omega) zJ zG
  ·rw[zD]
   exact Aw (Cl (Bl g _ _ _)) (Bl g _ _ _)
 have HF:Hid _:=zF;rw[←zD] at zE;unfold maxLen at zP;have zH:¬((i:Int)=(ss.length:Int)):=by omega
 have yA:(0:Int)<=(i:Int)+1:=by omega
 have yB:(i:Int)+1<=(ss.length:Int)+1:=by omega
 have yC:((i:Int)+1).toNat=i+1:=by omega
 have yD:((ss.length:Int)+1).toNat=ss.length+1:=by omega
 have yE:(0:Int)<=(ss.length:Int)+1:=by omega
 have yF:(ss.length:Int)+1<=(cap:Int):=by omega
 have zU:¬(cap=i+1):=by omega
 have zV:¬(cap=i):=by omega
 have zW:i<=ss.length+1:=by omega
 have zX:(i:Int)<=(ss.length:Int)+1:=by omega
 have zY:(i:Int)<=(ss.length:Int):=by omega
 have mixed:prog.follows .mixedOrders=true:=by kernel_rfl
 have yG:IntKind.i64.wrap ((i:Int)+1)=(i:Int)+1:=by rw[IntKind.wrap_i64];omega
 have yH:IntKind.i64.wrap ((ss.length:Int)+1)=(ss.length:Int)+1:=by rw[IntKind.wrap_i64];omega
 clear ho zA zF hv hg zQ zK zB zS zT zN zJ zL zD;go_enter func125,ntmps125;go_wp2_with (simp only[zR])
 go_region_law_o (refine De rfl _ _ 29 29 rfl (.slice (some ⟨g,(i+1) *2,none⟩) (ss.length+1 -(i+1)) (cap -(i+1))) (.slice (some ⟨g,i *2,none⟩) (ss.length+1 -i) (cap -i)) (by simp[Act.eval,Act.put]) (by simp[Act.eval,Act.put]) (zE 3 (cap -(i+1)) (cap -i)) ?_)
 go_wp2_with (at_builtin;refine Cu _ rfl _ _ 29 29 rfl _ _ rfl rfl (zI _ _) ?_);go_ret;exact⟨rfl,HF.o⟩
theorem Jn (g cap i:Nat) (ss:List Pd) (x:Pd) (vb:Nat) (w:World) (base:Nat) (ho:w.ownsRow base 108 2 (.slice (some ⟨g,0,none⟩) ss.length cap) ss.length (Ab pC ss)) (hl:ss.length<=600) (hi:i<ss.length) (zI:cap<ss.length+1) (zF:base<=w.heap.size) (hv:w.heap[vb]?=some (.cells #[.string x.name,.string x.sum] 108 (0,0))):
 Calls prog 125 #[.slice (some ⟨g,0,none⟩) ss.length cap,.int .i64 i,.slice (some ⟨vb,0,none⟩) 1 1] w fun e w'=>∃G,e=.returned (.slice (some ⟨w.heap.size,0,none⟩) (ss.length+1) G)/\w'.ownsRow base 108 2 (.slice (some ⟨w.heap.size,0,none⟩) (ss.length+1) G) (ss.length+1) (Ab pC (ss.take i++[x]++ss.drop i))/\w.grownBy w' none:=by
 obtain⟨i0,zA,zZ,zK,zR⟩:=Eo;have zO:g<w.heap.size:=(Af ho rfl).2;have zY:=(Array.getElem?_eq_some_iff.1 hv).1;have yM:ss.length<=cap:=by
  rcases ho.2 with⟨e,_⟩|⟨g',yB,yE,e,hb,hg,h1,h2,h3,h4⟩
  ·cases e
  ·cases e;exact h1
 have zJ:=Bb Bp ss;have zQ:(Ab pC [x]).length=2:=by rw[Bb Bp];rfl
 have zV:((Ab pC ss).drop (i *2)).length=(ss.length -i) *2:=by rw[List.length_drop,zJ];omega
 have zP:((Ab pC ss).take (i *2)).length=i *2:=by rw[List.length_take,zJ];omega
 have zH:(Builtin.firstCells i0.size i (.slice (some ⟨g,0,none⟩) i cap)).run prog w.drew=.ok ((Ab pC ss).take (i *2)).toArray w.drew:=by
  rw[zK];exact run_firstCells_some w.drew 2 i ⟨g,0,none⟩ i cap ((Ab pC ss).take (i *2)) zP (fun j v hj=>by
   rw[Go.WideShapes.add_plain,Nat.zero_add];rw[List.getElem?_take] at hj;split at hj
   ·exact(ho.cellAt _ (by omega)).trans hj
   ·cases hj)
 obtain⟨G,hG⟩:∃G,G=grownCap w (ss.length+1) cap 108:=⟨_,rfl⟩;obtain⟨zc,yD,zS⟩:∃zc:Array Value,zc=Value.cells (.agg #[.string ⟨#[]⟩,.string ⟨#[]⟩])/\zc.size=2:=⟨_,rfl,by kernel_rfl⟩;obtain⟨zs,zT⟩:∃zs:List Value,zs=(Builtin.zeroCells zc (ss.length+1 -i)).toList++(Builtin.zeroCells zc (G -(ss.length+1))).toList:=⟨_,rfl⟩;have yC:ss.length+1<=G:=by rw[hG];exact grownCap_ge w _ _ _
 have zE:G<=maxLen:=by
  rw[hG];exact grownCap_le_maxLen w (ss.length+1) cap 108 (by unfold maxLen;omega)
 have yA:i *2+zs.length=G *2:=by
  rw[zT];simp[Builtin.zeroCells,zS];omega
 have zX:∀ty,(Builtin.append_ #[29,3] ty #[.slice (some ⟨g,0,none⟩) i cap,.int .i64 ((ss.length:Int)+1 -(i:Int))]).run prog w=
  .ok (.slice (some ⟨w.heap.size,0,none⟩) (ss.length+1) G) (w.drew.alloc (.cells ((Ab pC ss).take (i *2)++zs).toArray 108)):=fun ty=>by
  have zW:i+(ss.length+1 -i)=ss.length+1:=by omega
  have h:=Lib.run_append_grow_zeros (P:=prog) w 29 3 ty 108 i0 _ .i64 .i64 underlying29 underlying3 zA zZ (some ⟨g,0,none⟩) i cap ((Ab pC ss).take (i *2)) zH (ss.length+1 -i) (by omega) (by rw[zK];omega) (by omega) (by omega) (by rw[zR];omega) (by rw[zR,zW];exact growslice_fits zI (by omega));rw[zW,←hG,←yD] at h;rw[show(ss.length:Int)+1 -(i:Int)=((ss.length+1 -i:Nat):Int) by omega,h,zT]
  have e:((Ab pC ss).take (i *2)).toArray++Builtin.zeroCells zc (ss.length+1 -i)++Builtin.zeroCells zc (G -(ss.length+1))=((Ab pC ss).take (i *2)++((Builtin.zeroCells zc (ss.length+1 -i)).toList++(Builtin.zeroCells zc (G -(ss.length+1))).toList)).toArray:=by
   apply Array.toList_inj.1;simp
  rw[e]
 obtain⟨W1,zD⟩:∃W1,W1=w.drew.alloc (.cells ((Ab pC ss).take (i *2)++zs).toArray 108):=⟨_,rfl⟩;have zB:W1.heap[w.heap.size]?=some (.cells ((Ab pC ss).take (i *2)++zs).toArray 108 (0,0)):=by rw[zD];exact heap_alloc_new w.drew _
 have hN:∀j,j<G *2->(W1.cell? ⟨w.heap.size,j,none⟩).isSome=true:=fun j hj=>by
  simp only[World.cell?,zB];rw[Array.getElem?_eq_getElem (by simp[zP];omega)];rfl
 have zL:∀j,W1.frozen? ⟨w.heap.size,j,none⟩=false:=fun j=>by simp[World.frozen?,zB]
 have hO:∀b,b<w.heap.size->W1.heap[b]?=w.heap[b]?:=fun b hb=>by rw[zD];exact EL w.drew _ hb
 have zM:∀ty dc,(Builtin.copy_ #[29,29] ty #[.slice (some ⟨w.heap.size,i *2,none⟩) (ss.length+1 -i) dc,.slice (some ⟨vb,0,none⟩) 1 1]).run prog W1=.ok (goInt (Nat.min 1 (ss.length+1 -i))) (W1.setCells w.heap.size (i *2) (Ab pC [x])):=fun ty dc=>
  BG W1 29 29 ty 108 i0 2 w.heap.size (i *2) (ss.length+1 -i) dc ⟨vb,0,none⟩ 1 1 (Ab pC [x]) underlying29 zA zK (by rw[zQ,show Nat.min 1 (ss.length+1 -i)=1 from Nat.min_eq_left (by omega),Nat.one_mul])
   (fun j v hj=>by
     rw[Go.WideShapes.add_plain,Nat.zero_add,World.cell?_of_block (hO vb zY)];exact Fv hv j v hj)
   (fun j hj=>hN _ (by omega)) (fun j _=>zL _) (Hr _)
 obtain⟨W2,zC⟩:∃W2,W2=(W1.setCells w.heap.size (i *2) (Ab pC [x])).drew:=⟨_,rfl⟩;have zN:∀ty dc sc,(Builtin.copy_ #[29,29] ty #[.slice (some ⟨w.heap.size,(i+1) *2,none⟩) (ss.length+1 -(i+1)) dc,.slice (some ⟨g,i *2,none⟩) (ss.length -i) sc]).run prog W2=.ok (goInt (Nat.min (ss.length -i) (ss.length+1 -(i+1)))) (W2.setCells w.heap.size ((i+1) *2) ((Ab pC ss).drop (i *2))):=fun ty dc sc=>
  BG W2 29 29 ty 108 i0 2 w.heap.size ((i+1) *2) (ss.length+1 -(i+1)) dc ⟨g,i *2,none⟩ (ss.length -i) sc ((Ab pC ss).drop (i *2)) underlying29 zA zK (by rw[zV];congr 1;show _=min _ _;omega)
   (fun j v hj=>by
     rw[List.getElem?_drop] at hj;have:=(Ut hj).1;rw[Go.WideShapes.add_plain,zC,EN,World.cell?_setCells_out _ _ _ _ _ (fun h _=>absurd h (Nat.ne_of_lt zO)),World.cell?_of_block (hO g zO)];exact(ho.cellAt _ (by omega)).trans hj)
   (fun j hj=>by rw[zC,EN];exact Fj w.heap.size (Ab pC [x]) (i *2) W1 (fun t ht=>hN _ (by omega)) ((i+1) *2+j) (hN _ (by omega))) (fun j _=>by rw[zC,GC,World.frozen?_setCells];exact zL _) (fun v hv=>Hr _ v (List.mem_of_mem_drop hv))
 have zG:(W2.setCells w.heap.size ((i+1) *2) ((Ab pC ss).drop (i *2))).ownsRow base 108 2 (.slice (some ⟨w.heap.size,0,none⟩) (ss.length+1) G) (ss.length+1) (Ab pC (ss.take i++[x]++ss.drop i))/\w.grownBy (W2.setCells w.heap.size ((i+1) *2) ((Ab pC ss).drop (i *2))) none:=by
  refine⟨?_,?_⟩
  ·rw[AT,AT,←El Bp ss i (by omega),←DH Bp ss i (by omega),zC,←GB]
   exact Ag (Lu (w:=W1) zJ (by omega) zQ zF zB yA yC zE) ((Below.refl _ _).drew)
  ·have s1:W1.heap.size=w.heap.size+1:=by rw[zD];simp
   have e1:w.grownBy W1 none:=by rw[zD];exact⟨rfl,rfl,rfl,by simp,fun b hb _=>EL w.drew _ hb⟩
   have e2:W1.grownBy (W2.setCells w.heap.size ((i+1) *2) ((Ab pC ss).drop (i *2))) (some w.heap.size):=by
    rw[zC];exact Aw (Aw (Bl w.heap.size (Ab pC [x]) (i *2) W1) (Hj _ _)) (Bl w.heap.size ((Ab pC ss).drop (i *2)) ((i+1) *2) _)
   exact⟨e2.os.trans e1.os,e2.tape.trans e1.tape,e2.output.trans e1.output,Uz e1.size e2.size,fun b hb _=>(e2.block b (by omega) (by simp;omega)).trans (e1.block b hb (by simp))⟩
 have HF:Hid _:=zG;have zU:G<=9223372036854775807:=by unfold maxLen at zE;omega
 have yQ:¬((i:Int)=(ss.length:Int)):=by omega
 have yR:(cap:Int)<(ss.length:Int)+1:=by omega
 have yN:(0:Int)<=(i:Int)+1:=by omega
 have yO:(i:Int)+1<=(ss.length:Int)+1:=by omega
 have yP:((i:Int)+1).toNat=i+1:=by omega
 have yF:¬(cap=i):=by omega
 have yG:¬(G=i):=by omega
 have yH:¬(G=i+1):=by omega
 have yI:i<=ss.length+1:=by omega
 have yK:(i:Int)<=(ss.length:Int)+1:=by omega
 have yL:(i:Int)<=(ss.length:Int):=by omega
 have mixed:prog.follows .mixedOrders=true:=by kernel_rfl
 have yJ:i<=cap:=by omega
 have yS:IntKind.i64.wrap ((i:Int)+1)=(i:Int)+1:=by rw[IntKind.wrap_i64];omega
 have yT:IntKind.i64.wrap ((ss.length:Int)+1)=(ss.length:Int)+1:=by rw[IntKind.wrap_i64];omega
 have yU:IntKind.i64.wrap ((ss.length:Int)+1 -(i:Int))=(ss.length:Int)+1 -(i:Int):=by rw[IntKind.wrap_i64];omega
 rw[←zD] at zX;clear ho zG hv zA zZ zR zJ zQ zV zP zH hG zT yA zB hN zL hO zD zO zY;go_enter func125,ntmps125;go_wp2_with (first
  |(at_builtin;refine Lib.wpList_append_run _ rfl _ _ _ _ rfl _ _ rfl rfl _ _ (zX _) ?_)
  |(at_builtin;refine Cu _ rfl _ _ 29 29 rfl _ _ rfl rfl (zM _ _) ?_))
 go_region_law_o (refine De rfl _ _ 29 29 rfl (.slice (some ⟨w.heap.size,(i+1) *2,none⟩) (ss.length+1 -(i+1)) (G -(i+1))) (.slice (some ⟨g,i *2,none⟩) (ss.length -i) (cap -i)) (by simp[Act.eval,Act.put]) (by simp[Act.eval,Act.put]) (by rw[←zC];exact zN 3 (G -(i+1)) (cap -i)) ?_)
 go_wp2;go_ret;rw[←zC];exact⟨G,rfl,HF.o⟩
theorem Ks (P:Value) (i:Nat) (ss:List Pd) (x:Pd) (vb:Nat) (w:World) (base:Nat) (ho:w.ownsRow base 108 2 P ss.length (Ab pC ss)) (hl:ss.length<=600) (hi:i<=ss.length) (zA:base<=w.heap.size) (zB:P.ownBlock≠some vb) (hv:w.heap[vb]?=some (.cells #[.string x.name,.string x.sum] 108 (0,0))):
 Calls prog 125 #[P,.int .i64 i,.slice (some ⟨vb,0,none⟩) 1 1] w fun e w'=>∃P',e=.returned P'/\w'.ownsRow base 108 2 P' (ss.length+1) (Ab pC (ss.take i++[x]++ss.drop i))/\w.grownBy w' P.ownBlock/\(P'.ownBlock=P.ownBlock∨P'.ownBlock=some w.heap.size):=by
 rcases Nat.lt_or_ge i ss.length with h|h
 ·rcases ho.2 with⟨e,hn⟩|⟨g,cap,zC,e,hb,hg,h1,h2,h3,h4⟩
  ·omega
  ·subst e
   rcases Nat.lt_or_ge cap (ss.length+1) with hc|hc
   ·refine Calls.mono (Jn g cap i ss x vb w base ho hl h hc zA hv) ?_
    rintro e w' ⟨G,rfl,q1,q2⟩;exact⟨_,rfl,q1,⟨q2.os,q2.tape,q2.output,q2.size,fun b hb _=>q2.block b hb (by simp)⟩,.inr rfl⟩
   ·refine Calls.mono (II g cap i ss x vb w base ho hl h hc (fun e=>zB (by rw[e];rfl)) hv) ?_
    rintro e w' ⟨rfl,q1,q2⟩;exact⟨_,rfl,q1,q2,.inl rfl⟩
 ·obtain rfl:i=ss.length:=by omega
  rw[List.take_length,List.drop_length,List.append_nil];exact Kr P ss x vb w base ho hl zA hv
end
theorem Rg (base d m:Nat) (O P L:Value) (wd now given births:Int) (ks:List Kd) (ps:List Pd) (ls:List Ld) (n s:ByteArray) (w:World) (h:DU w base d m O P L wd now given births ks ps ls) (zX:∀k∈ks,(k.sum.size:Int)=wd) (zK:Av ks s) (hl:ps.length<100) (zE:ps.Pairwise (fun a b=>less a.name b.name=true)) (zY:¬∃x∈ps,x.name=n):
 Calls prog 89 #[.pointer (some ⟨d,0,none⟩),.string n,.string s] w fun e w'=>e=.returned (.tuple #[])/\∃P',DU w' base d m O P' L wd now given births ks (CP ps n s) ls/\Tn (d::P.ownBlock.toList) w w':=by
 obtain⟨pa,zC,yA⟩:=AK h.dr.pin;subst yA;have HN:Hid _:=Dj base d m O (.slice pa ps.length zC) L wd now given births ks ps ls s w h.dr zX zK;have HD:Hid (DU w base d m O (.slice pa ps.length zC) L wd now given births ks ps ls):=h;have zW:Hid (ps.Pairwise (fun a b=>less a.name b.name=true)):=zE;have zO:Hid (¬∃x∈ps,x.name=n):=zY;have yE:((ps.length:Int)==100)=false:=by simp;omega
 clear h zE zY zX zK;go_enter func89,ntmps89;go_wp2_with fail;refine Calls.mono HN.o ?_;rintro e w1 ⟨rfl,zL⟩;have zP:=HD.o.below zL;have HS:Hid _:=Gz base d m O (.slice pa ps.length zC) L wd now given births ks ps ls n w1 zP (by omega) zW.o;clear HN;go_wp2_with fail;refine Calls.mono HS.o ?_;rintro e w2 ⟨i,rfl,zV,zQ⟩;have zI:decide (∃x,ps[i]?=some x/\x.name=n)=false:=by
  rw[decide_eq_false_iff_not];rintro⟨x,hx,hn⟩;exact zO.o ⟨x,Ux hx,hn⟩
 have HE:Hid (CP ps n s=ps.take i++[⟨n,s⟩]++ps.drop i):=Mf zV zO.o;have zG:=zP.below zQ;have yD:Hid (DU w2 base d m O (.slice pa ps.length zC) L wd now given births ks ps ls):=zG;have HB:Hid (Uq w w2):=zL.trans (zQ.mono zL.size);obtain⟨c6,_⟩:=zG.dr.box 6 _ rfl;obtain⟨A,hA⟩:∃A,A=w2.alloc (.cells #[.string n,.string s] 108):=⟨_,rfl⟩;have bA:=(AC hA).1;have zH:=zG.below bA
 have zF:Hid (DU A base d m O (.slice pa ps.length zC) L wd now given births ks ps ls):=zH;have zZ:Hid (Uq w2 A):=bA;have yC:=zV.le;have zD:=Ks (.slice pa ps.length zC) i ps ⟨n,s⟩ w2.heap.size A base zH.dr.pin (by omega) yC zH.lo (fun e=>Nat.lt_irrefl _ (Af zG.dr.pin e).2) (by rw[hA];exact heap_alloc_new w2 _);have HI:Hid _:=zD;have HA:Hid _:=hA;obtain⟨e6,_⟩:=zH.dr.box 6 _ rfl;rw[zI]
 clear zI zP zG zL zQ HD HS zO zW zV zD zH bA hA;go_wp2_with fail;rw[←HA.o];refine Calls.mono HI.o ?_;rintro e w3 ⟨P',rfl,zU,zR,zB⟩;obtain⟨zM,zN,yB⟩:=AK zU;subst yB;have zT:∀b,(Value.slice pa ps.length zC).ownBlock=some b->b≠d:=fun b hb=>((Cm zF.o.dr.ap).2.2.1 b hb).1;have zJ:∀b,(Value.slice zM (ps.length+1) zN).ownBlock=some b->b≠d:=fun b hb=>by
  rcases zB with zB|zB
  ·exact zT b (zB▸hb)
  ·rw[zB] at hb
   have:=zF.o.dr.box.lt;cases hb;omega
 have zA:Aa w3 d [.int .i64 wd,.map (some m),.int .i64 now,.int .i64 given,.int .i64 births,O,.slice pa ps.length zC,L]:=Aa.same zF.o.dr.box (zR.block d zF.o.dr.box.lt (fun e=>zT d e.symm rfl));obtain⟨f6,k6⟩:=zA 6 _ rfl
 have hK:∃P'',DU (w3.setCell ⟨d,6,none⟩ (.slice zM (ps.length+1) zN)) base d m O P'' L wd now given births ks (CP ps n s) ls/\Tn (d::(Value.slice pa ps.length zC).ownBlock.toList) w (w3.setCell ⟨d,6,none⟩ (.slice zM (ps.length+1) zN)):=by
  have t1:Tn (d::(Value.slice pa ps.length zC).ownBlock.toList) A (w3.setCell ⟨d,6,none⟩ (.slice zM (ps.length+1) zN)):=
   ((CO zR).mono (fun b hb=>List.mem_cons_of_mem _ hb)).trans ((Gt w3 d 6 _).mono (by simp))
  refine⟨_,zF.o.newP t1 (zA.set 6 _) ?_ ?_,((Tn.of HB.o).trans (Tn.of zZ.o)).trans t1⟩
  ·have zS:(CP ps n s).length=ps.length+1:=by rw[HE.o];simp;omega
   rw[zS,HE.o];exact BF zU zJ 6 _
  ·rcases zB with zB|zB
   ·exact .inl zB
   ·exact .inr ⟨_,zB,Us⟩
 have HK:Hid _:=hK;clear hK zU zR zA e6 zB zT zJ;go_wp2
 go_end0
 exact⟨rfl,HK.o⟩
theorem Rh (base d m:Nat) (O P L:Value) (wd now given births:Int) (ks:List Kd) (ps:List Pd) (ls:List Ld) (n s:ByteArray) (w:World) (h:DU w base d m O P L wd now given births ks ps ls) (zD:∀k∈ks,(k.sum.size:Int)=wd) (zC:Av ks s) (hl:ps.length<=100) (zA:ps.Pairwise (fun a b=>less a.name b.name=true)) (zB:(∃x∈ps,x.name=n)∨ps.length<100):
 Calls prog 89 #[.pointer (some ⟨d,0,none⟩),.string n,.string s] w fun e w'=>e=.returned (.tuple #[])/\∃P',DU w' base d m O P' L wd now given births ks (CP ps n s) ls/\Tn (d::P.ownBlock.toList) w w':=by
 by_cases hth:∃x∈ps,x.name=n
 ·exact Rf base d m O P L wd now given births ks ps ls n s w h zD zC (by omega) zA hth
 ·exact Rg base d m O P L wd now given births ks ps ls n s w h zD zC (by rcases zB with h|h;exact absurd h hth;exact h) zA hth
theorem Kt (base d m:Nat) (O P L:Value) (wd now given births:Int) (ks:List Kd) (ps:List Pd) (ls:List Ld) (s nm tx:ByteArray) (num:Int) (ra:Option Addr) (rn rc:Nat) (w:World) (h:DU w base d m O P L wd now given births ks ps ls) (zN:∀k∈ks,(k.sum.size:Int)=wd) (zG:Av ks s) (hl:ps.length<=100) (zB:ps.Pairwise (fun a b=>less a.name b.name=true)) (zA:(∃x∈ps,x.name=nm)∨ps.length<100):
 Calls prog 62 #[.pointer (some ⟨d,0,none⟩),.agg #[.int .i64 2,.string s,.string nm,.int .i64 num,.string tx,.slice ra rn rc]] w fun e w'=>e=.returned (.agg AJ.toArray)/\∃P',DU w' base d m O P' L wd now given births ks (CP ps nm s) ls/\Tn (d::P.ownBlock.toList) w w':=by
 obtain⟨W,hW⟩:∃W,W=((w.alloc (.cells #[.int .i64 2,.string s,.string nm,.int .i64 num,.string tx,.slice ra rn rc] 92)).alloc (.cells #[.int .i64 0,.int .i64 0,.int .i64 0,.int .i64 0,.int .i64 0,.slice none 0 0,.slice none 0 0,.slice none 0 0,.string ⟨#[]⟩,.int .i64 0,.string ⟨#[]⟩,.string ⟨#[]⟩] 96)).alloc (.cells #[.int .i64 0,.int .i64 0,.int .i64 0,.int .i64 0,.int .i64 0,.slice none 0 0,.slice none 0 0,.slice none 0 0,.string ⟨#[]⟩,.int .i64 0,.string ⟨#[]⟩,.string ⟨#[]⟩] 96):=⟨_,rfl⟩
 have hB:=(Bn hW).1;have zK:=(Bn hW).2.1;have xE:=(Bn hW).2.2.1;have zR:Aa W (w.heap.size+1) AJ:=by
  have h1:=Aa.new (w.alloc (.cells #[.int .i64 2,.string s,.string nm,.int .i64 num,.string tx,.slice ra rn rc] 92)) AJ 96;rw[World.size_alloc] at h1;rw[hW];exact Aa.below (v:=.int .i64 0) h1 (Ur)
 have zO:Aa W (w.heap.size+2) AJ:=by
  have h1:=Aa.new ((w.alloc (.cells #[.int .i64 2,.string s,.string nm,.int .i64 num,.string tx,.slice ra rn rc] 92)).alloc (.cells #[.int .i64 0,.int .i64 0,.int .i64 0,.int .i64 0,.int .i64 0,.slice none 0 0,.slice none 0 0,.slice none 0 0,.string ⟨#[]⟩,.int .i64 0,.string ⟨#[]⟩,.string ⟨#[]⟩] 96)) AJ 96;rw[World.size_alloc,World.size_alloc] at h1;rw[hW];exact h1
 have zI:W.heap[w.heap.size+1]?=some (.cells #[.int .i64 0,.int .i64 0,.int .i64 0,.int .i64 0,.int .i64 0,.slice none 0 0,.slice none 0 0,.slice none 0 0,.string ⟨#[]⟩,.int .i64 0,.string ⟨#[]⟩,.string ⟨#[]⟩] 96):=by
  rw[hW,Below.heap_alloc _ _ _ (by simp)];have:=heap_alloc_new (w.alloc (.cells #[.int .i64 2,.string s,.string nm,.int .i64 num,.string tx,.slice ra rn rc] 92)) (.cells #[.int .i64 0,.int .i64 0,.int .i64 0,.int .i64 0,.int .i64 0,.slice none 0 0,.slice none 0 0,.slice none 0 0,.string ⟨#[]⟩,.int .i64 0,.string ⟨#[]⟩,.string ⟨#[]⟩] 96);rw[World.size_alloc] at this;exact this
 have hD:=h.below hB;have zS:=h.dr.box.lt;have zJ:∀b∈d::P.ownBlock.toList,b<w.heap.size:=fun b hb=>h.dr.lts b (by unfold vB;simp at hb ⊢;rcases hb with rfl|hb<;>simp[*]);have HC:Hid _:=Rh base d m O P L wd now given births ks ps ls nm s W hD zN zG hl zB zA;have HW:Hid _:=hW
 have HZ:Hid (Aa W (w.heap.size+1) AJ/\Aa W (w.heap.size+2) AJ/\W.heap[w.heap.size+1]?=some (.cells #[.int .i64 0,.int .i64 0,.int .i64 0,.int .i64 0,.int .i64 0,.slice none 0 0,.slice none 0 0,.slice none 0 0,.string ⟨#[]⟩,.int .i64 0,.string ⟨#[]⟩,.string ⟨#[]⟩] 96)/\Uq w W/\W.heap.size=w.heap.size+3/\base<=w.heap.size):=⟨zR,zO,zI,hB,zK,h.lo⟩;have zE:Hid _:=zJ
 obtain⟨e0,e1,e2,e3⟩:=Aa.c4 xE 0 1 2 3;clear hW h hD zR zO zI hB zK xE zJ;go_enter func62,ntmps62;go_upto_region 2 with fail;rw[←HW.o];clear HW;go_wp2_with fail;refine Calls.mono HC.o ?_;rintro e w1 ⟨rfl,V,zF,zC⟩;have zz:=HZ.o.2.2.2.2.1;have zM:=Aa.same HZ.o.1 (zC.block _ (by omega) (fun h=>by have:=zE.o _ h;omega));have zL:=Aa.same HZ.o.2.1 (zC.block _ (by omega) (fun h=>by have:=zE.o _ h;omega))
 have zH:=(zC.block _ (by omega) (fun h=>by have:=zE.o _ h;omega)).trans HZ.o.2.2.1;have zD:Hid _:=And.intro zF (And.intro zC (zF.notin zH (by omega)));obtain⟨⟨y0,q0⟩,⟨y1,q1⟩,⟨y2,q2⟩,⟨y3,q3⟩,⟨y4,q4⟩,⟨y5,q5⟩,⟨y6,q6⟩,⟨y7,q7⟩,⟨y8,q8⟩,⟨y9,q9⟩,⟨zP,zT⟩,zQ,zU⟩:=CN zM;obtain⟨⟨v0,_⟩,⟨v1,_⟩,⟨v2,_⟩,⟨v3,_⟩,⟨v4,_⟩,⟨v5,_⟩,⟨v6,_⟩,⟨v7,_⟩,⟨v8,_⟩,⟨v9,_⟩,⟨zV,_⟩,zW,_⟩:=CN zL;clear zF zC zM zL zH e0 e1 e2 e3 HC zz
 go_wp2;refine bodyPost_ret (v:=.agg AJ.toArray) (by simp[results,results62,go_sem,y0,y1,y2,y3,y4,y5,y6,y7,y8,y9,zP,zQ,AJ]) rfl ⟨rfl,V,zD.o.1.turn (DX w1 (w.heap.size+1) _ _ _ _ _ _ _ _ _ _ _ _) (by intro b hb;simp at hb;subst hb;exact⟨by have:=HZ.o.2.2.2.2.2;omega,zD.o.2.2⟩),Tn.fresh ((Tn.of HZ.o.2.2.2.1).trans zD.o.2.1) (DX w1 (w.heap.size+1) _ _ _ _ _ _ _ _ _ _ _ _) (by omega)⟩
theorem IJ (base d m:Nat) (O P L:Value) (wd now given births:Int) (ks:List Kd) (ps:List Pd) (ls:List Ld) (s nm tx:ByteArray) (num:Int) (ra:Option Addr) (rn rc:Nat) (w:World) (hd:Dr w base d m O P L wd now given births ks ps ls) (zK:En wd ks) (hp:ps.length<=100) (hl:ls.length<=200) (zL:Av ks s) (zA:¬(((∃p∈ps,p.sum=s)∨∃l∈ls,l.sum=s)∨∃k∈ks,s∈k.refs)):
 Calls prog 62 #[.pointer (some ⟨d,0,none⟩),.agg #[.int .i64 7,.string s,.string nm,.int .i64 num,.string tx,.slice ra rn rc]] w fun e w'=>e=.returned (.agg AJ.toArray)/\∃O',Dr w' base d m O' P L wd now given births (Ez ks s) ps ls/\O'.ownBlock=O.ownBlock/\Tn (vB d m O P L) w w':=by
 obtain⟨W,hW⟩:∃W,W=((w.alloc (.cells #[.int .i64 7,.string s,.string nm,.int .i64 num,.string tx,.slice ra rn rc] 92)).alloc (.cells #[.int .i64 0,.int .i64 0,.int .i64 0,.int .i64 0,.int .i64 0,.slice none 0 0,.slice none 0 0,.slice none 0 0,.string ⟨#[]⟩,.int .i64 0,.string ⟨#[]⟩,.string ⟨#[]⟩] 96)).alloc (.cells #[.int .i64 0,.int .i64 0,.int .i64 0,.int .i64 0,.int .i64 0,.slice none 0 0,.slice none 0 0,.slice none 0 0,.string ⟨#[]⟩,.int .i64 0,.string ⟨#[]⟩,.string ⟨#[]⟩] 96):=⟨_,rfl⟩
 have hB:=(Bn hW).1;have zF:=(Bn hW).2.1;have e0:W.cell? ⟨w.heap.size,0,none⟩=some (.int .i64 7):=by rw[hW];simp[go_sem]
 have e1:W.cell? ⟨w.heap.size,1,none⟩=some (.string s):=by rw[hW];simp[go_sem]
 have zR:Aa W (w.heap.size+1) AJ:=by
  have h1:=Aa.new (w.alloc (.cells #[.int .i64 7,.string s,.string nm,.int .i64 num,.string tx,.slice ra rn rc] 92)) AJ 96;rw[World.size_alloc] at h1;rw[hW];exact Aa.below (v:=.int .i64 0) h1 (Ur)
 have zO:Aa W (w.heap.size+2) AJ:=by
  have h1:=Aa.new ((w.alloc (.cells #[.int .i64 7,.string s,.string nm,.int .i64 num,.string tx,.slice ra rn rc] 92)).alloc (.cells AJ.toArray 96)) AJ 96;rw[World.size_alloc,World.size_alloc] at h1;rw[hW];exact h1
 have HD:Hid _:=hd.below hB;have HV:Hid (∀b∈vB d m O P L,b<w.heap.size):=by
  intro b hb;unfold vB at hb;simp only[List.mem_cons,List.mem_append,Option.mem_toList] at hb;rcases hb with rfl|rfl|hb|hb|hb
  ·exact hd.box.lt
  ·exact(hd.map.choose_spec.choose_spec.2.1).lt
  ·exact(Af hd.ord hb).2
  ·exact(Af hd.pin hb).2
  ·exact(Af hd.lea hb).2
 have HR:Hid (W.heap[w.heap.size+1]?=some (.cells #[.int .i64 0,.int .i64 0,.int .i64 0,.int .i64 0,.int .i64 0,.slice none 0 0,.slice none 0 0,.slice none 0 0,.string ⟨#[]⟩,.int .i64 0,.string ⟨#[]⟩,.string ⟨#[]⟩] 96)):=by
  show _=_;rw[hW,Below.heap_alloc _ _ _ (by simp)];have:=heap_alloc_new (w.alloc (.cells #[.int .i64 7,.string s,.string nm,.int .i64 num,.string tx,.slice ra rn rc] 92)) (.cells #[.int .i64 0,.int .i64 0,.int .i64 0,.int .i64 0,.int .i64 0,.slice none 0 0,.slice none 0 0,.slice none 0 0,.string ⟨#[]⟩,.int .i64 0,.string ⟨#[]⟩,.string ⟨#[]⟩] 96);rw[World.size_alloc] at this;exact this
 have zD:base<=w.heap.size:=by have:=hd.bd;have:=hd.box.lt;omega
 have HW:Hid _:=hW;have HZ:Hid _:=And.intro zR zO;have zC:Hid _:=zF;clear hW hd zR zO zF;go_enter func62,ntmps62;go_upto_region 2 with fail;rw[←HW.o];clear HW;go_wp2_with fail;refine(Py base d m O P L wd now given births ks ps ls s W HD.o zK hp hl zL zA).mono ?_;rintro e w1 ⟨rfl,O',zE,hO,zB⟩;have zH:=Aa.same HZ.o.1 (zB.block _ (by have:=zC.o;omega) (fun h=>by have:=HV.o _ h;omega))
 have zG:=Aa.same HZ.o.2 (zB.block _ (by have:=zC.o;omega) (fun h=>by have:=HV.o _ h;omega));obtain⟨⟨y0,q0⟩,⟨y1,q1⟩,⟨y2,q2⟩,⟨y3,q3⟩,⟨y4,q4⟩,⟨y5,q5⟩,⟨y6,q6⟩,⟨y7,q7⟩,⟨y8,q8⟩,⟨y9,q9⟩,⟨zM,zP⟩,zN,zQ⟩:=CN zH;obtain⟨⟨v0,_⟩,⟨v1,_⟩,⟨v2,_⟩,⟨v3,_⟩,⟨v4,_⟩,⟨v5,_⟩,⟨v6,_⟩,⟨v7,_⟩,⟨v8,_⟩,⟨v9,_⟩,⟨zS,_⟩,zT,_⟩:=CN zG;have H1:Hid _:=And.intro zE (And.intro hO zB);clear zE hO zB zH zG e0 e1 HD;go_wp2
 have zJ:w.heap.size+1∉vB d m O' P L:=fun h=>by
  have:w.heap.size+1∈vB d m O P L:=by
   unfold vB at h ⊢;rw[H1.o.2.1] at h;exact h
  have:=HV.o _ this;omega
 have zI:∀cur fz,w1.heap[w.heap.size+1]?≠some (.cells cur 9 fz):=fun cur fz e=>by
  have h1:=H1.o.2.2.block (w.heap.size+1) (by have:=zC.o;omega) (fun h=>by have:=HV.o _ h;omega);rw[e,HR.o] at h1;simp at h1
 refine bodyPost_ret (v:=.agg AJ.toArray) (by simp[results,results62,go_sem,y0,y1,y2,y3,y4,y5,y6,y7,y8,y9,zM,zN,AJ]) rfl ⟨rfl,O',Dr.apart H1.o.1 (DX w1 _ _ _ _ _ _ _ _ _ _ _ _ _) (by omega) zJ zI,H1.o.2.1,Tn.fresh ((Tn.of hB).trans H1.o.2.2) (DX w1 _ _ _ _ _ _ _ _ _ _ _ _ _) (by omega)⟩
theorem Ia (base d m:Nat) (O P L:Value) (wd now given births:Int) (ks:List Kd) (ps:List Pd) (ls:List Ld) (s nm tx:ByteArray) (num:Int) (ra:Option Addr) (rn rc:Nat) (w:World) (hd:Dr w base d m O P L wd now given births ks ps ls) (zC:En wd ks) (hp:ps.length<=100) (hl:ls.length<=200) (zD:Av ks s) (zA:((∃p∈ps,p.sum=s)∨∃l∈ls,l.sum=s)∨∃k∈ks,s∈k.refs):
 Calls prog 62 #[.pointer (some ⟨d,0,none⟩),.agg #[.int .i64 7,.string s,.string nm,.int .i64 num,.string tx,.slice ra rn rc]] w fun e w'=>e=.panicked [{v:=refV 6 ⟨#[]⟩ ⟨#[]⟩,recovered:=false}]/\Uq w w':=by
 obtain⟨W,hW⟩:∃W,W=((w.alloc (.cells #[.int .i64 7,.string s,.string nm,.int .i64 num,.string tx,.slice ra rn rc] 92)).alloc (.cells #[.int .i64 0,.int .i64 0,.int .i64 0,.int .i64 0,.int .i64 0,.slice none 0 0,.slice none 0 0,.slice none 0 0,.string ⟨#[]⟩,.int .i64 0,.string ⟨#[]⟩,.string ⟨#[]⟩] 96)).alloc (.cells #[.int .i64 0,.int .i64 0,.int .i64 0,.int .i64 0,.int .i64 0,.slice none 0 0,.slice none 0 0,.slice none 0 0,.string ⟨#[]⟩,.int .i64 0,.string ⟨#[]⟩,.string ⟨#[]⟩] 96):=⟨_,rfl⟩
 have hB:=(Bn hW).1;have e0:W.cell? ⟨w.heap.size,0,none⟩=some (.int .i64 7):=by rw[hW];simp[go_sem]
 have e1:W.cell? ⟨w.heap.size,1,none⟩=some (.string s):=by rw[hW];simp[go_sem]
 have HD:Hid _:=hd.below hB;have HW:Hid _:=hW;clear hW hd;go_enter func62,ntmps62;go_upto_region 2 with fail;rw[←HW.o];clear HW;go_wp2_with fail;refine(Oj base d m O P L wd now given births ks ps ls s W HD.o zC hp hl zD zA).mono ?_;rintro e w1 ⟨rfl,zB⟩;exact⟨rfl,rfl,hB.trans (zB.mono hB.size)⟩
theorem Lv (base d m:Nat) (O P L:Value) (wd now given births:Int) (ks:List Kd) (ps:List Pd) (ls:List Ld) (s:ByteArray) (w:World) (hd:Dr w base d m O P L wd now given births ks ps ls) (zA:∀k∈ks,(k.sum.size:Int)=wd) (zB:¬Av ks s):
 Calls prog 93 #[.pointer (some ⟨d,0,none⟩),.string s] w fun e w'=>e=.panicked [{v:=refV 2 ⟨#[]⟩ ⟨#[]⟩,recovered:=false}]/\Uq w w':=by
 have HN:Hid _:=GV base d m O P L wd now given births ks ps ls s w hd zA zB;clear hd zA zB;go_enter func93,ntmps93;go_wp2_with fail;refine Calls.mono HN.o ?_;rintro e w1 ⟨rfl,zC⟩;go_wp2;exact⟨rfl,rfl,zC⟩
theorem Gf (base d m:Nat) (O P L:Value) (wd now given births:Int) (ks:List Kd) (ps:List Pd) (ls:List Ld) (s nm tx:ByteArray) (num:Int) (ra:Option Addr) (rn rc:Nat) (w:World) (hd:Dr w base d m O P L wd now given births ks ps ls) (zB:∀k∈ks,(k.sum.size:Int)=wd) (zC:¬Av ks s):
 Calls prog 62 #[.pointer (some ⟨d,0,none⟩),.agg #[.int .i64 7,.string s,.string nm,.int .i64 num,.string tx,.slice ra rn rc]] w fun e w'=>e=.panicked [{v:=refV 2 ⟨#[]⟩ ⟨#[]⟩,recovered:=false}]/\Uq w w':=by
 obtain⟨W,hW⟩:∃W,W=((w.alloc (.cells #[.int .i64 7,.string s,.string nm,.int .i64 num,.string tx,.slice ra rn rc] 92)).alloc (.cells #[.int .i64 0,.int .i64 0,.int .i64 0,.int .i64 0,.int .i64 0,.slice none 0 0,.slice none 0 0,.slice none 0 0,.string ⟨#[]⟩,.int .i64 0,.string ⟨#[]⟩,.string ⟨#[]⟩] 96)).alloc (.cells #[.int .i64 0,.int .i64 0,.int .i64 0,.int .i64 0,.int .i64 0,.slice none 0 0,.slice none 0 0,.slice none 0 0,.string ⟨#[]⟩,.int .i64 0,.string ⟨#[]⟩,.string ⟨#[]⟩] 96):=⟨_,rfl⟩
 have hB:=(Bn hW).1;have e0:W.cell? ⟨w.heap.size,0,none⟩=some (.int .i64 7):=by rw[hW];simp[go_sem]
 have e1:W.cell? ⟨w.heap.size,1,none⟩=some (.string s):=by rw[hW];simp[go_sem]
 have HD:Hid _:=hd.below hB;have HW:Hid _:=hW;clear hW hd;go_enter func62,ntmps62;go_upto_region 2 with fail;rw[←HW.o];clear HW;go_wp2_with fail;refine(Lv base d m O P L wd now given births ks ps ls s W HD.o zB zC).mono ?_;rintro e w1 ⟨rfl,zA⟩;exact⟨rfl,rfl,hB.trans (zA.mono hB.size)⟩
end Go.Proofs.YtflhhhnlhlaehaaGreatDoor
