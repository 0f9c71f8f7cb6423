import Derived.Test.YtflhhhnlhlaehaaGreatDoorC14
set_option maxRecDepth 100000
set_option maxHeartbeats 16000000
namespace Go.Proofs.YtflhhhnlhlaehaaGreatDoor
open Go.ChangeShapes Go.WideShapes Go.ChangeAt Go.RowKit _root_.Go.Proofs.Tryz
section
open Go.ChangeShapes Go.WideShapes Go.ChangeAt Go.RowKit Go.Lib
theorem Ep:∃i:TypeInfo,prog.info? 113=some i/\i.zero=some (.agg Bs)/\i.size=8/\i.bytes=8:=by
 obtain⟨i0,hi,h0,h1,h2⟩:=info_parts Je;exact⟨i0,hi,h0,h1,h2⟩
theorem Fw {w:World} {vb:Nat} {x:ByteArray} (hv:w.heap[vb]?=some (.cells (Ah x).toArray 113 (0,0))):∀j u,(Ab Ah [x])[j]?=some u->w.cell? ⟨vb,j,none⟩=some u:=by
 intro j u hu;rw[Ab,List.flatMap_cons,List.flatMap_nil,List.append_nil] at hu;simp only[World.cell?,hv];rw[←hu];simp
theorem Ku (P:Value) (ss:List ByteArray) (x:ByteArray) (vb:Nat) (w:World) (base:Nat) (ho:w.ownsRow base 113 8 P ss.length (Ab Ah ss)) (hl:ss.length<=600) (zB:base<=w.heap.size) (hv:w.heap[vb]?=some (.cells (Ah x).toArray 113 (0,0))):
 Calls prog 151 #[P,.int .i64 ss.length,.slice (some ⟨vb,0,none⟩) 1 1] w fun e w'=>∃P',e=.returned P'/\w'.ownsRow base 113 8 P' (ss.length+1) (Ab Ah (ss++[x]))/\w.grownBy w' P.ownBlock/\(P'.ownBlock=P.ownBlock∨P'.ownBlock=some w.heap.size):=by
 obtain⟨i0,zA,zC,zD,zE⟩:=Ep;obtain⟨v',w',hr,h2,h3,_,h5⟩:=run_append_own_at (P:=prog) w base 103 103 113 i0 _ 8 8 underlying103 zA zC zD zE rfl (by decide) P ss.length (Ab Ah ss) ho ⟨vb,0,none⟩ 1 1 (Ab Ah [x]) (by rw[Bb Dh];rfl) (fun j u hu=>by rw[Go.WideShapes.add_plain,Nat.zero_add];exact Fw hv j u hu) (CL _) (by unfold maxLen;omega) (by omega) zB;rw[←AT] at h2
 have HO:Hid _:=And.intro h2 (And.intro h3 h5);clear h2 h3 h5;rcases ho.2 with⟨e,zF⟩|⟨g,cap,zG,e,hb,hg,h1,h2,h3,h4⟩
 ·subst e
  rw[zF] at HO ⊢;clear ho hv zA zC zD zE;go_enter func151,ntmps151;go_wp2_with (at_builtin;refine Lib.wpList_append_run _ rfl _ _ _ _ rfl _ _ rfl rfl _ _ hr ?_);go_ret;exact⟨v',rfl,HO.o⟩
 ·subst e
  clear ho hv zA zC zD zE hg h3 h4;unfold maxLen at h2;by_cases hc:cap=ss.length
  ·subst hc
   go_enter func151,ntmps151;go_wp2_with (at_builtin;refine Lib.wpList_append_run _ rfl _ _ _ _ rfl _ _ rfl rfl _ _ hr ?_);go_ret;exact⟨v',rfl,HO.o⟩
  ·go_enter func151,ntmps151
   go_wp2_with (at_builtin;refine Lib.wpList_append_run _ rfl _ _ _ _ rfl _ _ rfl rfl _ _ hr ?_);go_ret;exact⟨v',rfl,HO.o⟩
theorem IK (g cap i:Nat) (ss:List ByteArray) (x:ByteArray) (vb:Nat) (w:World) (base:Nat) (ho:w.ownsRow base 113 8 (.slice (some ⟨g,0,none⟩) ss.length cap) ss.length (Ab Ah ss)) (hl:ss.length<=600) (hi:i<ss.length) (zG:ss.length+1<=cap) (zM:vb≠g) (hv:w.heap[vb]?=some (.cells (Ah x).toArray 113 (0,0))):
 Calls prog 151 #[.slice (some ⟨g,0,none⟩) ss.length cap,.int .i64 i,.slice (some ⟨vb,0,none⟩) 1 1] w fun e w'=>e=.returned (.slice (some ⟨g,0,none⟩) (ss.length+1) cap)/\w'.ownsRow base 113 8 (.slice (some ⟨g,0,none⟩) (ss.length+1) cap) (ss.length+1) (Ab Ah (ss.take i++[x]++ss.drop i))/\w.grownBy w' (some g):=by
 obtain⟨i0,zB,zS,zH,zT⟩:=Ep;obtain⟨zC,hg,zZ,zP,zK,zQ⟩:∃zC,w.heap[g]?=some (.cells zC 113 (0,0))/\ss.length<=cap/\cap<=maxLen/\zC.size=cap *8/\zC.toList.take (ss.length *8)=Ab Ah ss:=by
  rcases ho.2 with⟨e,_⟩|⟨g',zO,zC,e,hb,hg,h1,h2,h3,h4⟩
  ·cases e
  ·cases e;exact⟨zC,hg,h1,h2,h3,h4⟩
 have zN:=Bb Dh ss;have zJ:(Ab Ah [x]).length=8:=by rw[Bb Dh];rfl
 have zL:((Ab Ah ss).drop (i *8)).length=(ss.length -i) *8:=by rw[List.length_drop,zN];omega
 have zA:∀j,j<cap *8->(w.cell? ⟨g,j,none⟩).isSome=true:=fun j hj=>by
  simp only[World.cell?,hg];rw[Array.getElem?_eq_getElem (by omega)];rfl
 have zR:∀lb cb,(callFunc 166 #[.slice (some ⟨vb,0,none⟩) 1 1,.slice (some ⟨g,(i+1) *8,none⟩) lb cb]).run prog w=.ok (.value (.bool false)) w:=fun lb cb=>by
  rw[run_callFunc_extern func166 (by kernel_rfl) (by kernel_rfl) (by kernel_rfl) (e:=Extern.SlicesOverlaps.overlaps #[103,103] #[4]) (by kernel_rfl),
   Lib.run_overlaps_apart w 103 4 113 underlying103 8 (fun w=>by simp[sizeOf,typeInfo,zB,zH]) ⟨vb,0,none⟩ ⟨g,(i+1) *8,none⟩ 1 1 lb cb zM 113 113 ((Ah x).toArray:Array Value).size zC.size (by simp only[World.shape?,hv]) (by simp only[World.shape?,hg]) (by rw[zK];omega) (by simp only[World.frozen?,hv];rfl) (by simp[World.frozen?,hv])]
  rfl
 have zE:∀ty dc sc,(Builtin.copy_ #[103,103] ty #[.slice (some ⟨g,(i+1) *8,none⟩) (ss.length+1 -(i+1)) dc,.slice (some ⟨g,i *8,none⟩) (ss.length+1 -i) sc]).run prog w.drew=.ok (goInt (Nat.min (ss.length+1 -i) (ss.length+1 -(i+1)))) (w.drew.setCells g ((i+1) *8) ((Ab Ah ss).drop (i *8))):=fun ty dc sc=>
  BG w.drew 103 103 ty 113 i0 8 g ((i+1) *8) (ss.length+1 -(i+1)) dc ⟨g,i *8,none⟩ (ss.length+1 -i) sc ((Ab Ah ss).drop (i *8)) underlying103 zB zH (by rw[zL];congr 1;show _=min _ _;omega)
   (fun j v hj=>by
     rw[Go.WideShapes.add_plain];rw[List.getElem?_drop] at hj;have:=(Ut hj).1;exact(ho.cellAt _ (by omega)).trans hj)
   (fun j hj=>zA _ (by omega)) (fun j _=>ho.frozenAt _) (fun v hv=>CL _ v (List.mem_of_mem_drop hv))
 obtain⟨W1,zD⟩:∃W1,W1=w.drew.setCells g ((i+1) *8) ((Ab Ah ss).drop (i *8)):=⟨_,rfl⟩;have zI:∀ty dc,(Builtin.copy_ #[103,103] ty #[.slice (some ⟨g,i *8,none⟩) (ss.length+1 -i) dc,.slice (some ⟨vb,0,none⟩) 1 1]).run prog W1=.ok (goInt (Nat.min 1 (ss.length+1 -i))) (W1.setCells g (i *8) (Ab Ah [x])):=fun ty dc=>
  BG W1 103 103 ty 113 i0 8 g (i *8) (ss.length+1 -i) dc ⟨vb,0,none⟩ 1 1 (Ab Ah [x]) underlying103 zB zH (by rw[zJ,show Nat.min 1 (ss.length+1 -i)=1 from Nat.min_eq_left (by omega),Nat.one_mul])
   (fun j v hj=>by
     rw[Go.WideShapes.add_plain,Nat.zero_add,zD,World.cell?_setCells_out g _ _ _ _ (fun h _=>absurd h zM)];exact Fw hv j v hj)
   (fun j hj=>by rw[zD];exact Fj g ((Ab Ah ss).drop (i *8)) ((i+1) *8) w.drew (fun t ht=>zA _ (by omega)) (i *8+j) (zA _ (by omega))) (fun j _=>by rw[zD,World.frozen?_setCells];exact ho.frozenAt _) (CL _)
 have zF:(W1.setCells g (i *8) (Ab Ah [x])).ownsRow base 113 8 (.slice (some ⟨g,0,none⟩) (ss.length+1) cap) (ss.length+1) (Ab Ah (ss.take i++[x]++ss.drop i))/\w.grownBy (W1.setCells g (i *8) (Ab Ah [x])) (some g):=by
  refine⟨?_,?_⟩
  ·rw[AT,AT,←El Dh ss i (by omega),←DH Dh ss i (by omega),zD]
   exact JT (w:=w.drew) (Ag ho ((Below.refl _ _).drew)) (by omega) zJ zG
  ·rw[zD]
   exact Aw (Cl (Bl g _ _ _)) (Bl g _ _ _)
 have HF:Hid _:=zF;rw[←zD] at zE;unfold maxLen at zP;have zH:¬((i:Int)=(ss.length:Int)):=by omega
 have yA:(0:Int)<=(i:Int)+1:=by omega
 have yB:(i:Int)+1<=(ss.length:Int)+1:=by omega
 have yC:((i:Int)+1).toNat=i+1:=by omega
 have yD:((ss.length:Int)+1).toNat=ss.length+1:=by omega
 have yE:(0:Int)<=(ss.length:Int)+1:=by omega
 have yF:(ss.length:Int)+1<=(cap:Int):=by omega
 have zU:¬(cap=i+1):=by omega
 have zV:¬(cap=i):=by omega
 have zW:i<=ss.length+1:=by omega
 have zX:(i:Int)<=(ss.length:Int)+1:=by omega
 have zY:(i:Int)<=(ss.length:Int):=by omega
 have mixed:prog.follows .mixedOrders=true:=by kernel_rfl
 have yG:IntKind.i64.wrap ((i:Int)+1)=(i:Int)+1:=by rw[IntKind.wrap_i64];omega
 have yH:IntKind.i64.wrap ((ss.length:Int)+1)=(ss.length:Int)+1:=by rw[IntKind.wrap_i64];omega
 clear ho zA zF hv hg zQ zK zB zS zT zN zJ zL zD;go_enter func151,ntmps151;go_wp2_with (simp only[zR])
 go_region_law_o (refine De rfl _ _ 103 103 rfl (.slice (some ⟨g,(i+1) *8,none⟩) (ss.length+1 -(i+1)) (cap -(i+1))) (.slice (some ⟨g,i *8,none⟩) (ss.length+1 -i) (cap -i)) (by simp[Act.eval,Act.put]) (by simp[Act.eval,Act.put]) (zE 3 (cap -(i+1)) (cap -i)) ?_)
 go_wp2_with (at_builtin;refine Cu _ rfl _ _ 103 103 rfl _ _ rfl rfl (zI _ _) ?_);go_ret;exact⟨rfl,HF.o⟩
theorem Jo (g cap i:Nat) (ss:List ByteArray) (x:ByteArray) (vb:Nat) (w:World) (base:Nat) (ho:w.ownsRow base 113 8 (.slice (some ⟨g,0,none⟩) ss.length cap) ss.length (Ab Ah ss)) (hl:ss.length<=600) (hi:i<ss.length) (zI:cap<ss.length+1) (zF:base<=w.heap.size) (hv:w.heap[vb]?=some (.cells (Ah x).toArray 113 (0,0))):
 Calls prog 151 #[.slice (some ⟨g,0,none⟩) ss.length cap,.int .i64 i,.slice (some ⟨vb,0,none⟩) 1 1] w fun e w'=>∃G,e=.returned (.slice (some ⟨w.heap.size,0,none⟩) (ss.length+1) G)/\w'.ownsRow base 113 8 (.slice (some ⟨w.heap.size,0,none⟩) (ss.length+1) G) (ss.length+1) (Ab Ah (ss.take i++[x]++ss.drop i))/\w.grownBy w' none:=by
 obtain⟨i0,zA,zZ,zK,zR⟩:=Ep;have zO:g<w.heap.size:=(Af ho rfl).2;have zY:=(Array.getElem?_eq_some_iff.1 hv).1;have yM:ss.length<=cap:=by
  rcases ho.2 with⟨e,_⟩|⟨g',yB,yE,e,hb,hg,h1,h2,h3,h4⟩
  ·cases e
  ·cases e;exact h1
 have zJ:=Bb Dh ss;have zQ:(Ab Ah [x]).length=8:=by rw[Bb Dh];rfl
 have zV:((Ab Ah ss).drop (i *8)).length=(ss.length -i) *8:=by rw[List.length_drop,zJ];omega
 have zP:((Ab Ah ss).take (i *8)).length=i *8:=by rw[List.length_take,zJ];omega
 have zH:(Builtin.firstCells i0.size i (.slice (some ⟨g,0,none⟩) i cap)).run prog w.drew=.ok ((Ab Ah ss).take (i *8)).toArray w.drew:=by
  rw[zK];exact run_firstCells_some w.drew 8 i ⟨g,0,none⟩ i cap ((Ab Ah ss).take (i *8)) zP (fun j v hj=>by
   rw[Go.WideShapes.add_plain,Nat.zero_add];rw[List.getElem?_take] at hj;split at hj
   ·exact(ho.cellAt _ (by omega)).trans hj
   ·cases hj)
 obtain⟨G,hG⟩:∃G,G=grownCap w (ss.length+1) cap 113:=⟨_,rfl⟩;obtain⟨zc,yD,zS⟩:∃zc:Array Value,zc=Value.cells (.agg Bs)/\zc.size=8:=⟨_,rfl,by kernel_rfl⟩;obtain⟨zs,zT⟩:∃zs:List Value,zs=(Builtin.zeroCells zc (ss.length+1 -i)).toList++(Builtin.zeroCells zc (G -(ss.length+1))).toList:=⟨_,rfl⟩;have yC:ss.length+1<=G:=by rw[hG];exact grownCap_ge w _ _ _
 have zE:G<=maxLen:=by
  rw[hG];exact grownCap_le_maxLen w (ss.length+1) cap 113 (by unfold maxLen;omega)
 have yA:i *8+zs.length=G *8:=by
  rw[zT];simp[Builtin.zeroCells,zS];omega
 have zX:∀ty,(Builtin.append_ #[103,3] ty #[.slice (some ⟨g,0,none⟩) i cap,.int .i64 ((ss.length:Int)+1 -(i:Int))]).run prog w=
  .ok (.slice (some ⟨w.heap.size,0,none⟩) (ss.length+1) G) (w.drew.alloc (.cells ((Ab Ah ss).take (i *8)++zs).toArray 113)):=fun ty=>by
  have zW:i+(ss.length+1 -i)=ss.length+1:=by omega
  have h:=Lib.run_append_grow_zeros (P:=prog) w 103 3 ty 113 i0 _ .i64 .i64 underlying103 underlying3 zA zZ (some ⟨g,0,none⟩) i cap ((Ab Ah ss).take (i *8)) zH (ss.length+1 -i) (by omega) (by rw[zK];omega) (by omega) (by omega) (by rw[zR];omega) (by rw[zR,zW];exact growslice_fits zI (by omega));rw[zW,←hG,←yD] at h;rw[show(ss.length:Int)+1 -(i:Int)=((ss.length+1 -i:Nat):Int) by omega,h,zT]
  have e:((Ab Ah ss).take (i *8)).toArray++Builtin.zeroCells zc (ss.length+1 -i)++Builtin.zeroCells zc (G -(ss.length+1))=((Ab Ah ss).take (i *8)++((Builtin.zeroCells zc (ss.length+1 -i)).toList++(Builtin.zeroCells zc (G -(ss.length+1))).toList)).toArray:=by
   apply Array.toList_inj.1;simp
  rw[e]
 obtain⟨W1,zD⟩:∃W1,W1=w.drew.alloc (.cells ((Ab Ah ss).take (i *8)++zs).toArray 113):=⟨_,rfl⟩;have zB:W1.heap[w.heap.size]?=some (.cells ((Ab Ah ss).take (i *8)++zs).toArray 113 (0,0)):=by rw[zD];exact heap_alloc_new w.drew _
 have hN:∀j,j<G *8->(W1.cell? ⟨w.heap.size,j,none⟩).isSome=true:=fun j hj=>by
  simp only[World.cell?,zB];rw[Array.getElem?_eq_getElem (by simp[zP];omega)];rfl
 have zL:∀j,W1.frozen? ⟨w.heap.size,j,none⟩=false:=fun j=>by simp[World.frozen?,zB]
 have hO:∀b,b<w.heap.size->W1.heap[b]?=w.heap[b]?:=fun b hb=>by rw[zD];exact EL w.drew _ hb
 have zM:∀ty dc,(Builtin.copy_ #[103,103] ty #[.slice (some ⟨w.heap.size,i *8,none⟩) (ss.length+1 -i) dc,.slice (some ⟨vb,0,none⟩) 1 1]).run prog W1=.ok (goInt (Nat.min 1 (ss.length+1 -i))) (W1.setCells w.heap.size (i *8) (Ab Ah [x])):=fun ty dc=>
  BG W1 103 103 ty 113 i0 8 w.heap.size (i *8) (ss.length+1 -i) dc ⟨vb,0,none⟩ 1 1 (Ab Ah [x]) underlying103 zA zK (by rw[zQ,show Nat.min 1 (ss.length+1 -i)=1 from Nat.min_eq_left (by omega),Nat.one_mul])
   (fun j v hj=>by
     rw[Go.WideShapes.add_plain,Nat.zero_add,World.cell?_of_block (hO vb zY)];exact Fw hv j v hj)
   (fun j hj=>hN _ (by omega)) (fun j _=>zL _) (CL _)
 obtain⟨W2,zC⟩:∃W2,W2=(W1.setCells w.heap.size (i *8) (Ab Ah [x])).drew:=⟨_,rfl⟩;have zN:∀ty dc sc,(Builtin.copy_ #[103,103] ty #[.slice (some ⟨w.heap.size,(i+1) *8,none⟩) (ss.length+1 -(i+1)) dc,.slice (some ⟨g,i *8,none⟩) (ss.length -i) sc]).run prog W2=.ok (goInt (Nat.min (ss.length -i) (ss.length+1 -(i+1)))) (W2.setCells w.heap.size ((i+1) *8) ((Ab Ah ss).drop (i *8))):=fun ty dc sc=>
  BG W2 103 103 ty 113 i0 8 w.heap.size ((i+1) *8) (ss.length+1 -(i+1)) dc ⟨g,i *8,none⟩ (ss.length -i) sc ((Ab Ah ss).drop (i *8)) underlying103 zA zK (by rw[zV];congr 1;show _=min _ _;omega)
   (fun j v hj=>by
     rw[List.getElem?_drop] at hj;have:=(Ut hj).1;rw[Go.WideShapes.add_plain,zC,EN,World.cell?_setCells_out _ _ _ _ _ (fun h _=>absurd h (Nat.ne_of_lt zO)),World.cell?_of_block (hO g zO)];exact(ho.cellAt _ (by omega)).trans hj)
   (fun j hj=>by rw[zC,EN];exact Fj w.heap.size (Ab Ah [x]) (i *8) W1 (fun t ht=>hN _ (by omega)) ((i+1) *8+j) (hN _ (by omega))) (fun j _=>by rw[zC,GC,World.frozen?_setCells];exact zL _) (fun v hv=>CL _ v (List.mem_of_mem_drop hv))
 have zG:(W2.setCells w.heap.size ((i+1) *8) ((Ab Ah ss).drop (i *8))).ownsRow base 113 8 (.slice (some ⟨w.heap.size,0,none⟩) (ss.length+1) G) (ss.length+1) (Ab Ah (ss.take i++[x]++ss.drop i))/\w.grownBy (W2.setCells w.heap.size ((i+1) *8) ((Ab Ah ss).drop (i *8))) none:=by
  refine⟨?_,?_⟩
  ·rw[AT,AT,←El Dh ss i (by omega),←DH Dh ss i (by omega),zC,←GB]
   exact Ag (Lu (w:=W1) zJ (by omega) zQ zF zB yA yC zE) ((Below.refl _ _).drew)
  ·have s1:W1.heap.size=w.heap.size+1:=by rw[zD];simp
   have e1:w.grownBy W1 none:=by rw[zD];exact⟨rfl,rfl,rfl,by simp,fun b hb _=>EL w.drew _ hb⟩
   have e2:W1.grownBy (W2.setCells w.heap.size ((i+1) *8) ((Ab Ah ss).drop (i *8))) (some w.heap.size):=by
    rw[zC];exact Aw (Aw (Bl w.heap.size (Ab Ah [x]) (i *8) W1) (Hj _ _)) (Bl w.heap.size ((Ab Ah ss).drop (i *8)) ((i+1) *8) _)
   exact⟨e2.os.trans e1.os,e2.tape.trans e1.tape,e2.output.trans e1.output,Uz e1.size e2.size,fun b hb _=>(e2.block b (by omega) (by simp;omega)).trans (e1.block b hb (by simp))⟩
 have HF:Hid _:=zG;have zU:G<=9223372036854775807:=by unfold maxLen at zE;omega
 have yQ:¬((i:Int)=(ss.length:Int)):=by omega
 have yR:(cap:Int)<(ss.length:Int)+1:=by omega
 have yN:(0:Int)<=(i:Int)+1:=by omega
 have yO:(i:Int)+1<=(ss.length:Int)+1:=by omega
 have yP:((i:Int)+1).toNat=i+1:=by omega
 have yF:¬(cap=i):=by omega
 have yG:¬(G=i):=by omega
 have yH:¬(G=i+1):=by omega
 have yI:i<=ss.length+1:=by omega
 have yK:(i:Int)<=(ss.length:Int)+1:=by omega
 have yL:(i:Int)<=(ss.length:Int):=by omega
 have mixed:prog.follows .mixedOrders=true:=by kernel_rfl
 have yJ:i<=cap:=by omega
 have yS:IntKind.i64.wrap ((i:Int)+1)=(i:Int)+1:=by rw[IntKind.wrap_i64];omega
 have yT:IntKind.i64.wrap ((ss.length:Int)+1)=(ss.length:Int)+1:=by rw[IntKind.wrap_i64];omega
 have yU:IntKind.i64.wrap ((ss.length:Int)+1 -(i:Int))=(ss.length:Int)+1 -(i:Int):=by rw[IntKind.wrap_i64];omega
 rw[←zD] at zX;clear ho zG hv zA zZ zR zJ zQ zV zP zH hG zT yA zB hN zL hO zD zO zY;go_enter func151,ntmps151;go_wp2_with (first
  |(at_builtin;refine Lib.wpList_append_run _ rfl _ _ _ _ rfl _ _ rfl rfl _ _ (zX _) ?_)
  |(at_builtin;refine Cu _ rfl _ _ 103 103 rfl _ _ rfl rfl (zM _ _) ?_))
 go_region_law_o (refine De rfl _ _ 103 103 rfl (.slice (some ⟨w.heap.size,(i+1) *8,none⟩) (ss.length+1 -(i+1)) (G -(i+1))) (.slice (some ⟨g,i *8,none⟩) (ss.length -i) (cap -i)) (by simp[Act.eval,Act.put]) (by simp[Act.eval,Act.put]) (by rw[←zC];exact zN 3 (G -(i+1)) (cap -i)) ?_)
 go_wp2;go_ret;rw[←zC];exact⟨G,rfl,HF.o⟩
theorem Kv (P:Value) (i:Nat) (ss:List ByteArray) (x:ByteArray) (vb:Nat) (w:World) (base:Nat) (ho:w.ownsRow base 113 8 P ss.length (Ab Ah ss)) (hl:ss.length<=600) (hi:i<=ss.length) (zA:base<=w.heap.size) (zB:P.ownBlock≠some vb) (hv:w.heap[vb]?=some (.cells (Ah x).toArray 113 (0,0))):
 Calls prog 151 #[P,.int .i64 i,.slice (some ⟨vb,0,none⟩) 1 1] w fun e w'=>∃P',e=.returned P'/\w'.ownsRow base 113 8 P' (ss.length+1) (Ab Ah (ss.take i++[x]++ss.drop i))/\w.grownBy w' P.ownBlock/\(P'.ownBlock=P.ownBlock∨P'.ownBlock=some w.heap.size):=by
 rcases Nat.lt_or_ge i ss.length with h|h
 ·rcases ho.2 with⟨e,hn⟩|⟨g,cap,zC,e,hb,hg,h1,h2,h3,h4⟩
  ·omega
  ·subst e
   rcases Nat.lt_or_ge cap (ss.length+1) with hc|hc
   ·refine Calls.mono (Jo g cap i ss x vb w base ho hl h hc zA hv) ?_
    rintro e w' ⟨G,rfl,q1,q2⟩;exact⟨_,rfl,q1,⟨q2.os,q2.tape,q2.output,q2.size,fun b hb _=>q2.block b hb (by simp)⟩,.inr rfl⟩
   ·refine Calls.mono (IK g cap i ss x vb w base ho hl h hc (fun e=>zB (by rw[e];rfl)) hv) ?_
    rintro e w' ⟨rfl,q1,q2⟩;exact⟨_,rfl,q1,q2,.inl rfl⟩
 ·obtain rfl:i=ss.length:=by omega
  rw[List.take_length,List.drop_length,List.append_nil];exact Ku P ss x vb w base ho hl zA hv
end
theorem Kw (a:Option Addr) (cap:Nat) (s:ByteArray) (w:World):
 Calls prog 161 #[.slice a 0 cap,Bt s,.func (.func 162) #[] #[]] w fun e w'=>e=.returned (.tuple #[.int .i64 0,.bool false])/\Uq w w':=by
 unfold Bt BW;go_enter func161,ntmps161;go_wp2
 go_loopw [9,10] (fun i j wr=>i=.int .i64 0/\j=.int .i64 0/\Uq w wr) (fun _ _ _=>0)
 case atStart=>exact⟨rfl,rfl,Ur⟩
 case round=>
  obtain⟨rfl,rfl,hb⟩:=hrel;have zA:=AE.ne wr;go_wp2;refine Bf (by kernel_rfl) (by kernel_rfl) ?_
  repeat (go_big_quiet_step (fail))
  refine wpQuiet_nil ?_;intro m;go_wp2
  go_ret2
  exact⟨by first|rfl|simp[Act.put],hb.trans (m.h.mono hb.size)⟩
theorem Ri (base:Nat) (O:Value) (ss:List ByteArray) (s:ByteArray) (w:World) (ho:w.ownsRow base 113 8 O ss.length (AA ss)) (hl:ss.length<=600) (zB:s.size<=8) (zC:∀x∈ss,x.size=s.size) (zA:ss.Pairwise (fun a b=>less a b=true)):
 Calls prog 161 #[O,Bt s,.func (.func 162) #[] #[]] w fun e w'=>∃i:Nat,e=.returned (.tuple #[.int .i64 i,.bool (decide (ss[i]?=some s))])/\DP ss s i/\Uq w w':=by
 rcases ho.2 with⟨rfl,hz⟩|⟨g,cap,zD,rfl,_⟩
 ·have:ss=[]:=List.eq_nil_of_length_eq_zero hz
  subst this;refine(Kw none 0 s w).mono ?_;rintro e w' ⟨rfl,hb⟩;exact⟨0,by simp,⟨Us,fun j x h=>by omega,fun j x _ hx=>by simp at hx⟩,hb⟩
 ·exact Iw g cap ss s w base ho hl zB zC zA
theorem Se (base d m:Nat) (oa:Option Addr) (oc:Nat) (P L:Value) (wd now given births:Int) (ks:List Kd) (s:ByteArray) (w:World) (zA:Aa w d [.int .i64 wd,.map (some m),.int .i64 now,.int .i64 given,.int .i64 births,.slice oa ks.length oc,P,L]) (zB:w.ownsRow base 113 8 (.slice oa ks.length oc) ks.length (AA (ks.map (·.sum))))
 (hk:ks.length<=600) (zE:s.size<=8) (zF:∀x∈ks,x.sum.size=s.size) (zC:(ks.map (·.sum)).Pairwise (fun a b=>less a b=true)):
 Calls prog 134 #[.pointer (some ⟨d,0,none⟩),Bt s] w fun e w'=>∃i:Nat,e=.returned (.tuple #[.int .i64 i,.bool (decide ((ks.map (·.sum))[i]?=some s))])/\DP (ks.map (·.sum)) s i/\Uq w w':=by
 obtain⟨W,hW⟩:∃W,W=w.alloc (.cells #[.int .u8 (kB s 0),.int .u8 (kB s 1),.int .u8 (kB s 2),.int .u8 (kB s 3),.int .u8 (kB s 4),.int .u8 (kB s 5),.int .u8 (kB s 6),.int .u8 (kB s 7)] 113):=⟨_,rfl⟩;have hB:=(AC hW).1;have cb:Aa W w.heap.size (Ah s):=by rw[hW];exact Aa.new w (Ah s) 113
 have zD:W.drew.ownsRow base 113 8 (.slice oa ks.length oc) (ks.map (·.sum)).length (AA (ks.map (·.sum))):=by
  rw[List.length_map];exact Ag zB hB.drew
 have HS:Hid _:=Ri base (.slice oa ks.length oc) (ks.map (·.sum)) s W.drew zD (by rw[List.length_map];exact hk) zE (fun x hx=>by obtain⟨y,hy,rfl⟩:=List.mem_map.1 hx;exact zF y hy) zC
 have S0:W.drew.cell? ⟨d,5,none⟩=some (.slice oa ks.length oc)/\(W.drew.cell? ⟨w.heap.size,0,none⟩=some (.int .u8 (kB s 0))/\W.drew.cell? ⟨w.heap.size,1,none⟩=some (.int .u8 (kB s 1))/\W.drew.cell? ⟨w.heap.size,2,none⟩=some (.int .u8 (kB s 2))/\W.drew.cell? ⟨w.heap.size,3,none⟩=some (.int .u8 (kB s 3))/\W.drew.cell? ⟨w.heap.size,4,none⟩=some (.int .u8 (kB s 4))/\W.drew.cell? ⟨w.heap.size,5,none⟩=some (.int .u8 (kB s 5))/\W.drew.cell? ⟨w.heap.size,6,none⟩=some (.int .u8 (kB s 6))/\W.drew.cell? ⟨w.heap.size,7,none⟩=some (.int .u8 (kB s 7))):=⟨(Aa.below zA hB 5 _ rfl).1,EV (w:=W.drew) cb⟩
 have HW:Hid _:=hW;clear hW cb zD zA zB;unfold Bt BW at *
 go_enter func134,ntmps134;go_upto_region 1 with fail;rw[←HW.o];clear HW;obtain⟨s5,zG,zH,zI,zJ,zK,zL,zM,zN⟩:=S0;go_region_with (go_at_call 161;refine Calls.mono HS.o ?_;rintro e w1 ⟨i,rfl,hp,hb⟩)
 all_goals
  have HF:Hid _:=And.intro hp (hB.trans ((DW hb).mono hB.size));clear hp hb s5 zG zH zI zJ zK zL zM zN HS;go_wp2
  go_ret2
  exact⟨i,by first|rfl|simp[Act.put],HF.o.1,HF.o.2⟩
def CD (ks:List Kd) (x:Kd):List Kd:=ks.filter (fun k=>less k.sum x.sum)++[x]++ks.filter (fun k=> !(less k.sum x.sum))
theorem DK {ks:List Kd} {x u:Kd}:u∈CD ks x↔u∈ks++[x]:=by
 unfold CD;simp only[List.mem_append,List.mem_filter,List.mem_singleton];cases less u.sum x.sum<;>simp
 ·constructor
  ·rintro(h|h)
   ·exact .inr h
   ·exact .inl h
  ·rintro(h|h)
   ·exact .inr h
   ·exact .inl h
theorem FO (ks:List Kd) (x:Kd):(CD ks x).length=ks.length+1:=by
 unfold CD;rw[List.length_append,List.length_append];have:∀l:List Kd,(l.filter (fun k=>less k.sum x.sum)).length+(l.filter (fun k=> !(less k.sum x.sum))).length=l.length:=by
  intro l;induction l with
  |nil=>rfl
  |cons y l ih=>cases h:less y.sum x.sum<;>simp[h]<;>omega
 have:=this ks;simp;omega
theorem Nc {ks:List Kd} {x:Kd} {i:Nat} (h:DP (ks.map (·.sum)) x.sum i):CD ks x=ks.take i++[x]++ks.drop i:=by
 have lo:∀k∈ks.take i,less k.sum x.sum=true:=fun k hk=>by
  obtain⟨j,hj⟩:=List.getElem?_of_mem hk;have zA:=(Ut hj).1;rw[List.length_take] at zA;rw[List.getElem?_take_of_lt (by omega)] at hj;exact h.lo j k.sum (by omega) (by rw[List.getElem?_map,hj];rfl)
 have hi:∀k∈ks.drop i,less k.sum x.sum=false:=fun k hk=>by
  obtain⟨j,hj⟩:=List.getElem?_of_mem hk;rw[List.getElem?_drop] at hj;exact h.hi (i+j) k.sum (by omega) (by rw[List.getElem?_map,hj];rfl)
 have e:=(List.take_append_drop i ks).symm;unfold CD
 conv=>lhs;rw[e]
 rw[List.filter_append,List.filter_append,List.filter_eq_self.2 lo,List.filter_eq_nil_iff.2 (fun k hk=>by rw[hi k hk];simp),List.filter_eq_nil_iff.2 (fun k hk=>by rw[lo k hk];simp),List.filter_eq_self.2 (fun k hk=>by rw[hi k hk];rfl)];simp
theorem Rj {d m n:Nat} {O P L O':Option Nat} (h:(d::m::(O.toList++(P.toList++L.toList))).Nodup) (zA:∀b∈d::m::(O.toList++(P.toList++L.toList)),b<n) (hL:O'=O∨∃g,O'=some g/\n<=g):(d::m::(O'.toList++(P.toList++L.toList))).Nodup:=by
 rcases hL with rfl|⟨g,rfl,hg⟩
 ·exact h
 ·cases O<;>cases P<;>cases L<;>simp_all<;>grind
theorem DU.newK {w w':World} {base d m:Nat} {O P L:Value} {wd now given births:Int} {ks:List Kd} {ps:List Pd} {ls:List Ld} (h:DU w base d m O P L wd now given births ks ps ls) (ht:Tn (d::m::O.ownBlock.toList) w w') {O':Value} {zB:List Kd} {zA:Int} (zC:Aa w' d [.int .i64 wd,.map (some m),.int .i64 now,.int .i64 given,.int .i64 zA,O',P,L]) (hu:∃n f,n<=1000000+zA.toNat/\AM w' 113 m n f/\Bd w' base (vB d m O' P L) wd zB f) (ho:w'.ownsRow base 113 8 O' zB.length (AA (zB.map (·.sum)))) (hb:O'.ownBlock=O.ownBlock∨∃g,O'.ownBlock=some g/\w.heap.size<=g):DU w' base d m O' P L wd now given zA zB ps ls:=by
 obtain⟨a1,a2,a3,a4⟩:=Cm h.dr.ap;refine⟨⟨zC,hu,ho,AD h.dr.pin (fun g hg=>ht.block g (Af h.dr.pin hg).2 (fun e=> ?_)),AD h.dr.lea (fun g hg=>ht.block g (Af h.dr.lea hg).2 (fun e=> ?_)),h.dr.bd,h.dr.bm,Rj h.dr.ap h.dr.lts hb⟩⟩
 ·rcases List.mem_cons.1 e with e|e
  ·exact(a3 g hg).1 e
  ·rcases List.mem_cons.1 e with e|e
   ·exact(a3 g hg).2.1 e
   ·exact(a2 g (by simpa using e)).2.2.1 hg
 ·rcases List.mem_cons.1 e with e|e
  ·exact(a4 g hg).1 e
  ·rcases List.mem_cons.1 e with e|e
   ·exact(a4 g hg).2 e
   ·exact(a2 g (by simpa using e)).2.2.2 hg
theorem Jp {ks:List Kd} {x:Kd} {i:Nat} (h:DP (ks.map (·.sum)) x.sum i):(ks.map (·.sum)).take i++[x.sum]++(ks.map (·.sum)).drop i=(CD ks x).map (·.sum):=by
 rw[Nc h];simp[List.map_take,List.map_drop]
theorem Bd.snoc {w:World} {base:Nat} {V:List Nat} {wd:Int} {ks:List Kd} {f:Lit->Option Value} (h:Bd w base V wd ks f) {x:Kd} {ra:Option Addr} {rc:Nat} (hx:(x.sum.size:Int)=wd) (h8:wd<=8) (hr:CA w base V ra x.refs):Bd w base V wd (ks++[x]) (upd f (keyL x.sum) (Dc x ra rc)):=by
 intro s hs;by_cases he:keyL s=keyL x.sum
 ·have:s=x.sum:=GS he (by omega) (by omega)
  subst this;exact .inr ⟨x,ra,rc,by simp,rfl,CK _ _ _,hr⟩
 ·rw[CH _ _ he]
  have zA:x.sum≠s:=fun e=>he (by rw[e]);rcases h s hs with⟨h1,h2⟩|⟨u,zB,zC,h1,h2,h3,h4⟩
  ·refine .inl ⟨h1,fun⟨u,hu,e⟩=> ?_⟩
   rcases List.mem_append.1 hu with hu|hu
   ·exact h2 ⟨u,hu,e⟩
   ·simp at hu;subst hu;exact zA e
  ·exact .inr ⟨u,zB,zC,by simp[h1],h2,h3,h4⟩
theorem Bd.same {w:World} {base:Nat} {V:List Nat} {wd:Int} {ks zA:List Kd} {f:Lit->Option Value} (h:Bd w base V wd ks f) (hm:∀u,u∈zA↔u∈ks):Bd w base V wd zA f:=by
 intro s hs;rcases h s hs with⟨h1,h2⟩|⟨u,ra,rc,h1,h2⟩
 ·exact .inl ⟨h1,fun⟨k,hk,e⟩=>h2 ⟨k,(hm k).1 hk,e⟩⟩
 ·exact .inr ⟨u,ra,rc,(hm u).2 h1,h2⟩
def MD (w:World) (base:Nat) (V:List Nat) (m:Nat) (wd births:Int) (ks:List Kd):Prop:=∃n f,n<=1000000+births.toNat/\AM w 113 m n f/\Bd w base V wd ks f
theorem MD.turn {w w':World} {base m:Nat} {U V:List Nat} {wd births:Int} {ks:List Kd} (h:MD w base V m wd births ks) (ht:Tn U w w') (hU:∀b∈U,b∈V) (hm:m∉U):MD w' base V m wd births ks:=by
 obtain⟨n,f,h1,h2,h3⟩:=h;exact⟨n,f,h1,AM.same h2 (ht.block m h2.lt hm),h3.move ht (fun b hb=> .inl (hU b hb)) (fun b hb=> .inl hb)⟩
theorem Rk (base d m:Nat) (O P L:Value) (wd now given births:Int) (ks:List Kd) (ps:List Pd) (ls:List Ld) (s text:ByteArray) (refs:List ByteArray) (ra:Option Addr) (rc:Nat) (w:World) (h:DU w base d m O P L wd now given births ks ps ls) (zQ:En wd ks) (yR:(s.size:Int)=wd) (hl:ks.length<600) (yU:0<=births) (yV:births<1000000000) (hr:CA w base (vB d m O P L) ra refs):
 Calls prog 123 #[.pointer (some ⟨d,0,none⟩),.string s,.agg #[.string text,.slice ra refs.length rc]] w fun e w'=>e=.returned (.tuple #[])/\(∃O',DU w' base d m O' P L wd now given (births+1) (CD ks ⟨s,births+1,text,refs⟩) ps ls/\(O'.ownBlock=O.ownBlock∨∃g,O'.ownBlock=some g/\w.heap.size<=g))/\Tn (d::m::O.ownBlock.toList) w w':=by
 obtain⟨oa,oc,zT⟩:=AK h.dr.ord;subst zT;obtain⟨W0,zP⟩:∃W,W=w.alloc (.cells #[.string text,.slice ra refs.length rc] 40):=⟨_,rfl⟩;have zN:=(AC zP).1;have x0:=(AC zP).2.2;have zE:=h.below zN;obtain⟨X,hX⟩:∃X,X=W0.setCell ⟨d,4,none⟩ (.int .i64 (births+1)):=⟨_,rfl⟩;have yX:d<w.heap.size:=h.dr.box.lt;have tX:Tn [d] W0 X:=by rw[hX];exact Gt _ _ _ _
 have zJ:Aa X d [.int .i64 wd,.map (some m),.int .i64 now,.int .i64 given,.int .i64 (births+1),.slice oa ks.length oc,P,L]:=by rw[hX];exact zE.dr.box.set 4 _
 have zF:=Cm zE.dr.ap;have xX:Aa X w.heap.size [.string text,.slice ra refs.length rc]:=Aa.same x0 (tX.block _ x0.lt (by simp;omega));have oX:X.ownsRow base 113 8 (.slice oa ks.length oc) ks.length (AA (ks.map (·.sum))):=AD zE.dr.ord (fun g hg=>tX.block g (Af zE.dr.ord hg).2 (by simp;exact(zF.2.1 g hg).1))
 have uX:MD X base (vB d m (.slice oa ks.length oc) P L) m wd births ks:=MD.turn zE.dr.map tX (by intro b hb;simp at hb;subst hb;simp[vB]) (by simp;exact fun e=>zF.1 e.symm);have rX:CA X base (vB d m (.slice oa ks.length oc) P L) ra refs:=(hr.move (U:=[]) (Tn.of zN) (by simp) (fun b hb=> .inl hb)).move tX (by intro b hb;simp at hb;subst hb;exact .inl (by simp[vB])) (fun b hb=> .inl hb)
 obtain⟨c4,k4⟩:=zE.dr.box 4 _ rfl;obtain⟨c5,_⟩:=zE.dr.box 5 _ rfl;have yZ:((ks.length:Int)==600)=false:=by simp;omega
 have yW:(births==1000000000)=false:=by simp;omega
 have yA:Hid _:=zP;have HX:Hid _:=hX;have HD:Hid (DU w base d m (.slice oa ks.length oc) P L wd now given births ks ps ls):=h;have HP:Hid _:=And.intro zJ (And.intro xX (And.intro oX (And.intro uX rX)));have HT:Hid (Tn [d] w X):=(Tn.of zN).trans tX;clear zP hX zE h hr x0 tX zJ xX oX uX rX zN;go_enter func123,ntmps123;go_upto_region 1 with fail;rw[←yA.o];go_wp2_with fail;rw[←HX.o];clear HX yA
 refine(GU s X).mono ?_;rintro e w1 ⟨rfl,zG⟩;obtain⟨K,hK⟩:∃W,W=w1.alloc (.cells #[.int .u8 (kB s 0),.int .u8 (kB s 1),.int .u8 (kB s 2),.int .u8 (kB s 3),.int .u8 (kB s 4),.int .u8 (kB s 5),.int .u8 (kB s 6),.int .u8 (kB s 7)] 113):=⟨_,rfl⟩;have yC:=(AC hK).1;have bK:Below X.heap.size X K:=zG.trans (yC.mono zG.size);have kK:Aa K w1.heap.size (Ah s):=by rw[hK];exact Aa.new w1 (Ah s) 113
 obtain⟨zJ,xX,oX,uX,rX⟩:=HP.o;have yP:base<=X.heap.size:=Uz HD.o.lo HT.o.size;have zO:=zJ.below bK;have xK:=xX.below bK;have oK:=Ag oX bK;have rK:CA K base (vB d m (.slice oa ks.length oc) P L) ra refs:=rX.move (U:=[]) (Tn.of bK) (by simp) (fun b hb=> .inl hb);obtain⟨n1,f,yI,yD,hH⟩:=MD.turn uX (U:=[]) (Tn.of bK) (by simp) (by simp);have hM:=yD;have zF:=Cm HD.o.dr.ap;have xB:m<K.heap.size:=hM.lt
 obtain⟨w5,zZ,zK,zH⟩:=(hM.keep (Below.refl K.heap.size K).drew hM.lt).put keyed underlying100 (val:=Dc ⟨s,births+1,text,refs⟩ ra rc) (by unfold maxLen;omega) (Dt s);have zB:K.grownBy w5 (some m):=Cl zH;have kl:w1.heap.size<K.heap.size:=kK.lt;have xC:m<w.heap.size:=by obtain⟨_,_,_,yK,_⟩:=HD.o.dr.map;exact yK.lt
 have xD:w.heap.size<w1.heap.size:=by have h1:=zG.size;have h2:=xX.lt;omega
 have k5:Aa w5 w1.heap.size (Ah s):=Aa.far' (v:=.int .u8 (kB s 0)) kK zB (by omega);have x5:Aa w5 d _:=Aa.far' zO zB (fun e=>zF.1 e.symm);have t5:Aa w5 w.heap.size [.string text,.slice ra refs.length rc]:=Aa.far' xK zB (by omega)
 have P4:K.drew.cell? ⟨d,1,none⟩=some (.map (some m))/\K.drew.cell? ⟨d,4,none⟩=some (.int .i64 (births+1))/\K.drew.cell? ⟨w.heap.size,0,none⟩=some (.string text)/\K.drew.cell? ⟨w.heap.size,1,none⟩=some (.slice ra refs.length rc)/\_:=⟨(zO 1 _ rfl).1,(zO 4 _ rfl).1,(xK 0 _ rfl).1,(xK 1 _ rfl).1,EV (w:=K.drew) kK⟩
 have P5:w5.cell? ⟨d,1,none⟩=some (.map (some m))/\w5.cell? ⟨d,4,none⟩=some (.int .i64 (births+1))/\w5.cell? ⟨w.heap.size,0,none⟩=some (.string text)/\w5.cell? ⟨w.heap.size,1,none⟩=some (.slice ra refs.length rc)/\_:=⟨(x5 1 _ rfl).1,(x5 4 _ rfl).1,(t5 0 _ rfl).1,(t5 1 _ rfl).1,EV k5⟩
 have o5:w5.ownsRow base 113 8 (.slice oa ks.length oc) ks.length (AA (ks.map (·.sum))):=World.ownsRow.kept oK zB (.inr (fun e=>(zF.2.1 m e).2.1 rfl));have zI:=Se base d m oa oc P L wd now given (births+1) ks s w5 x5 o5 (by omega) (by have:=zQ.w8;omega) (fun x hx=>by have:=zQ.sz x hx;omega) zQ.sorted;unfold Bt BW at zI zZ;unfold Dc at zZ;have HQ:Hid _:=zI
 have H5:Hid _:=And.intro x5 (And.intro o5 (And.intro k5 (And.intro zK (And.intro zB (And.intro hH (And.intro rK (And.intro bK yI)))))));have HK:Hid _:=hK;clear zJ xX oX uX rX zO xK oK rK yD hM zI hK HP x5 o5 k5 zK zH zB hH t5 kK bK yC c4 k4 c5;go_upto_region 5 with fail;rw[←HK.o];clear HK
 go_region_held3 (fun X=>X.cell? ⟨d,1,none⟩=some (.map (some m))/\X.cell? ⟨d,4,none⟩=some (.int .i64 (births+1))/\X.cell? ⟨w.heap.size,0,none⟩=some (.string text)/\X.cell? ⟨w.heap.size,1,none⟩=some (.slice ra refs.length rc)/\(X.cell? ⟨w1.heap.size,0,none⟩=some (.int .u8 (kB s 0))/\X.cell? ⟨w1.heap.size,1,none⟩=some (.int .u8 (kB s 1))/\X.cell? ⟨w1.heap.size,2,none⟩=some (.int .u8 (kB s 2))/\X.cell? ⟨w1.heap.size,3,none⟩=some (.int .u8 (kB s 3))/\X.cell? ⟨w1.heap.size,4,none⟩=some (.int .u8 (kB s 4))/\X.cell? ⟨w1.heap.size,5,none⟩=some (.int .u8 (kB s 5))/\X.cell? ⟨w1.heap.size,6,none⟩=some (.int .u8 (kB s 6))/\X.cell? ⟨w1.heap.size,7,none⟩=some (.int .u8 (kB s 7))))
  (first|with_reducible exact P4|with_reducible exact P5)
  (fail)
 obtain⟨q0,q1,q2,q3,q4,q5,q6,q7⟩:=EV H5.o.2.2.1;clear P4 P5 zZ;go_wp2_with fail;refine Calls.mono HQ.o ?_;rintro e w6 ⟨i,rfl,zY,zD⟩;have zR:=Aa.below H5.o.1 zD;have yG:=Aa.below (v:=.int .u8 (kB s 0)) H5.o.2.2.1 zD;have zX:w6.ownsRow base 113 8 (.slice oa ks.length oc) (ks.map (·.sum)).length (Ab Ah (ks.map (·.sum))):=by
  rw[List.length_map];exact Ag H5.o.2.1 zD
 have yO:i<=ks.length:=by have:=zY.le;rwa[List.length_map] at this
 obtain⟨A,hA⟩:∃A,A=w6.drew.alloc (.cells (Ah s).toArray 113):=⟨_,rfl⟩;have bA:Below w6.heap.size w6 A:=by rw[hA];exact(Below.refl _ _).drew.alloc (Us) _
 have zU:base<=w6.heap.size:=by have h1:=H5.o.2.2.2.2.1.size;have h2:=zD.size;have h3:=H5.o.2.2.2.2.2.2.2.1.size;omega
 have zC:=Kv (.slice oa ks.length oc) i (ks.map (·.sum)) s w6.heap.size A base (Ag zX bA) (by rw[List.length_map];omega) (by rw[List.length_map];exact yO) (Uz zU bA.size) (fun e=>Nat.lt_irrefl _ (Af zX e).2) (by rw[hA];exact heap_alloc_new w6.drew _);rw[List.length_map,hA] at zC;have HI:Hid _:=zC;have zI:Hid _:=zY;have xA:=zR.below bA;have yM:d<w6.heap.size:=zR.lt;obtain⟨y5,_⟩:=zR 5 _ rfl
 obtain⟨r0,r1,r2,r3,r4,r5,r6,r7⟩:=EV yG;have H6:Hid _:=And.intro zD (And.intro bA xA);have zS:Hid _:=hA;have zV:∀b,(Value.slice oa ks.length oc).ownBlock=some b->b≠d/\b≠m:=fun b hb=>⟨(zF.2.1 b hb).1,(zF.2.1 b hb).2.1⟩;have yN:d<A.heap.size:=xA.lt;clear q0 q1 q2 q3 q4 q5 q6 q7 zY zC HQ zX zR yG;go_upto_region 7 with fail
 have yB:Below w6.heap.size w6 (w6.alloc (.cells #[.int .u8 (kB s 0),.int .u8 (kB s 1),.int .u8 (kB s 2),.int .u8 (kB s 3),.int .u8 (kB s 4),.int .u8 (kB s 5),.int .u8 (kB s 6),.int .u8 (kB s 7)] 113)):=Ur;have a5:=(yB.cell (p:=⟨d,5,none⟩) yM).trans y5;clear xA hA yB;unfold Ah BW at HI
 go_region_law (first
  |(go_simp;go_at_call 151;refine Calls.mono HI.o ?_;rintro e w7 ⟨O',rfl,zM,yF,yH⟩;obtain⟨oa',oc',zT⟩:=AK zM;subst zT;have zL:A.grownBy w7 (Value.slice oa ks.length oc).ownBlock:=(by rw[zS.o];exact yF);have x7:=Aa.same H6.o.2.2 (zL.block d yN (fun e=>(zV d e.symm).1 rfl));obtain⟨f5,k5⟩:=x7 5 _ rfl))
 all_goals
  have zA:(Value.slice oa' (ks.length+1) oc').ownBlock=(Value.slice oa ks.length oc).ownBlock∨(Value.slice oa' (ks.length+1) oc').ownBlock=some A.heap.size:=by rw[zS.o];exact yH
  have H7:Hid _:=And.intro x7 (And.intro zL (And.intro zA zM));clear yH yF zL x7 zM zA HI a5 r0 r1 r2 r3 r4 r5 r6 r7 y5 zS
  have hK:(∃O'',DU (w7.setCell ⟨d,5,none⟩ (.slice oa' (ks.length+1) oc')) base d m O'' P L wd now given (births+1) (CD ks ⟨s,births+1,text,refs⟩) ps ls/\(O''.ownBlock=(Value.slice oa ks.length oc).ownBlock∨∃g,O''.ownBlock=some g/\w.heap.size<=g))/\Tn (d::m::(Value.slice oa ks.length oc).ownBlock.toList) w (w7.setCell ⟨d,5,none⟩ (.slice oa' (ks.length+1) oc')):=by
   obtain⟨x5,o5,xE,zK,zH,hH,rK,bK,yI⟩:=H5.o;obtain⟨zD,bA,xA⟩:=H6.o;obtain⟨x7,zL,zA,zM⟩:=H7.o;have t1:Tn (d::m::(Value.slice oa ks.length oc).ownBlock.toList) w X:=HT.o.mono (by simp)
   have t2:Tn (d::(Value.slice oa ks.length oc).ownBlock.toList) w5 (w7.setCell ⟨d,5,none⟩ (.slice oa' (ks.length+1) oc')):=(((Tn.of zD).trans (Tn.of bA)).trans ((CO zL).mono (fun b hb=>List.mem_cons_of_mem _ hb))).trans ((Gt w7 d 5 _).mono (by simp))
   have t3:Tn (d::m::(Value.slice oa ks.length oc).ownBlock.toList) K (w7.setCell ⟨d,5,none⟩ (.slice oa' (ks.length+1) oc')):=(Tn.grown zH (by simp)).trans (t2.mono (by intro b hb;simp at hb ⊢;rcases hb with hb|hb<;>simp[hb]));have tt:=(t1.trans (Tn.of bK)).trans t3;have yT:w.heap.size<=K.heap.size:=Uz HT.o.size bK.size;have yS:w.heap.size<=A.heap.size:=Uz (Uz (Uz yT zH.size) zD.size) bA.size
   have yY:∀b∈d::m::(Value.slice oa ks.length oc).ownBlock.toList,base<=b:=by
    intro b hb;rcases List.mem_cons.1 hb with rfl|hb
    ·exact HD.o.dr.bd
    ·rcases List.mem_cons.1 hb with rfl|hb
     ·exact HD.o.dr.bm
     ·exact(Af HD.o.dr.ord (by simpa using hb)).1
   have yQ:(w7.setCell ⟨d,5,none⟩ (.slice oa' (ks.length+1) oc')).heap[m]?=w5.heap[m]?:=t2.block m zK.lt (fun e=>by
    rcases List.mem_cons.1 e with e|e
    ·exact zF.1 e.symm
    ·exact(zV m (by simpa using e)).2 rfl)
   have yL:=AM.same zK yQ;have yE:(Value.slice oa' (ks.length+1) oc').ownBlock=(Value.slice oa ks.length oc).ownBlock∨∃g,(Value.slice oa' (ks.length+1) oc').ownBlock=some g/\w.heap.size<=g:=by
    rcases zA with zA|zA
    ·exact .inl zA
    ·exact .inr ⟨_,zA,yS⟩
   have zW:∀b,(Value.slice oa' (ks.length+1) oc').ownBlock=some b->b≠d:=fun b hb=>by
    rcases zA with zA|zA
    ·exact(zV b (zA▸hb)).1
    ·rw[zA] at hb
     cases hb;omega
   refine⟨⟨_,HD.o.newK tt (x7.set 5 _) ⟨n1+1,_,by omega,yL,?_⟩ ?_ yE,yE⟩,tt⟩
   ·refine((hH.snoc (x:=⟨s,births+1,text,refs⟩) (rc:=rc) yR zQ.w8 rK).same (fun u=>DK)).move t3 (fun b hb=> .inl ?_) (fun b hb=> ?_)
    ·unfold vB
     simp only[List.mem_cons,List.mem_append] at hb ⊢;rcases hb with e|e|e
     ·exact .inl e
     ·exact .inr (.inl e)
     ·exact .inr (.inr (.inl e))
    ·unfold vB at hb ⊢
     simp only[List.mem_cons,List.mem_append] at hb ⊢;rcases hb with e|e|e|e|e
     ·exact .inl (.inl e)
     ·exact .inl (.inr (.inl e))
     ·rcases zA with zA|zA
      ·rw[zA] at e
       exact .inl (.inr (.inr (.inl e)))
      ·rw[zA] at e
       simp at e;exact .inr (by have h1:=zH.size;have h2:=zD.size;have h3:=bA.size;omega)
     ·exact .inl (.inr (.inr (.inr (.inl e))))
     ·exact .inl (.inr (.inr (.inr (.inr e))))
   ·rw[FO,←Jp (x:=⟨s,births+1,text,refs⟩) zI.o]
    exact BF zM zW 5 _
  have yJ:Hid _:=hK;clear hK H7 H6 H5;go_wp2
  go_end0
  exact⟨rfl,yJ.o⟩
theorem PI (base d m:Nat) (O P L:Value) (wd now given births:Int) (ks:List Kd) (ps:List Pd) (ls:List Ld) (s text:ByteArray) (ra:Option Addr) (rn rc:Nat) (w:World) (h:DU w base d m O P L wd now given births ks ps ls) (hf:ks.length=600∨births=1000000000):
 Calls prog 123 #[.pointer (some ⟨d,0,none⟩),.string s,.agg #[.string text,.slice ra rn rc]] w fun e w'=>e=.panicked [{v:=refV 4 ⟨#[]⟩ ⟨#[]⟩,recovered:=false}]/\Uq w w':=by
 obtain⟨oa,oc,zE⟩:=AK h.dr.ord;subst zE;obtain⟨W0,zB⟩:∃W,W=w.alloc (.cells #[.string text,.slice ra rn rc] 40):=⟨_,rfl⟩;have zA:=(AC zB).1;have zD:=h.below zA;obtain⟨c4,c5⟩:=Aa.c2 zD.dr.box 4 5;have zC:Hid _:=zB;have HB:Hid _:=zA;clear zB zD h zA;by_cases hk:ks.length=600
 ·have zF:((ks.length:Int)==600)=true:=by simp;omega
  clear hf hk;go_enter func123,ntmps123;go_upto_region 1 with fail;rw[←zC.o];go_wp2;exact⟨rfl,rfl,HB.o⟩
 ·have zF:((ks.length:Int)==600)=false:=by simp;omega
  have zG:(births==1000000000)=true:=by simp;omega
  clear hf hk;go_enter func123,ntmps123;go_upto_region 1 with fail;rw[←zC.o];go_wp2;exact⟨rfl,rfl,HB.o⟩
def AX (text:ByteArray) (refs:List ByteArray) (wd:Int):ByteArray:=BE (Am text refs wd).data.toList wd.toNat
theorem Mh (wd:Int) (m n:Nat) (f:Lit->Option Value) (ks:List Kd) (W:World) (B:Nat) (s:ByteArray) (w:World) (hM:AM w 113 m n f) (hH:BY W B wd ks f) (hs:(s.size:Int)=wd):
 (¬Av ks s/\Calls prog 52 #[.agg #[.int .i64 wd,.map (some m)],.string s] w fun e w'=>e=.returned (.tuple #[.agg #[.string ⟨#[]⟩,.int .i64 0,.string ⟨#[]⟩,.slice none 0 0],.bool false])/\Uq w w')∨
 ∃x ra rc,x∈ks/\x.sum=s/\Ad W B ra x.refs/\Calls prog 52 #[.agg #[.int .i64 wd,.map (some m)],.string s] w fun e w'=>e=.returned (.tuple #[.agg #[.string x.sum,.int .i64 x.born,.string x.text,.slice ra x.refs.length rc],.bool true])/\Uq w w':=by
 rcases hH s hs with⟨h1,h2⟩|⟨x,ra,rc,h1,h2,h3,h4⟩
 ·exact .inl ⟨h2,DO wd m n f s w hM hs _ _ _ _ _ ⟨_,_,_,rfl⟩ (by rw[h1];rfl) (by rw[h1];rfl)⟩
 ·exact .inr ⟨x,ra,rc,h1,h2,h4,DO wd m n f s w hM hs _ _ _ _ _ ⟨_,_,_,rfl⟩ (by rw[h3];rfl) (by rw[h3];rfl)⟩
def SL (base d m:Nat) (O P L:Value) (wd now given births:Int) (ks:List Kd) (ps:List Pd) (ls:List Ld) (text:ByteArray) (refs:List ByteArray) (w:World) (e:Ending) (w':World):Prop:=
 ((¬∀r∈refs,Av ks r)/\e=.panicked [{v:=refV 2 ⟨#[]⟩ ⟨#[]⟩,recovered:=false}]/\Uq w w')∨
 ((∀r∈refs,Av ks r)/\(
   (∃k∈ks,k.sum=AX text refs wd/\Am k.text k.refs wd=Am text refs wd/\e=.returned (.string (AX text refs wd))/\Uq w w')∨
   (∃k∈ks,k.sum=AX text refs wd/\Am k.text k.refs wd≠Am text refs wd/\e=.panicked [{v:=refV 3 (Am k.text k.refs wd) (Am text refs wd),recovered:=false}]/\Uq w w')∨
   (¬Av ks (AX text refs wd)/\(ks.length=600∨births=1000000000)/\e=.panicked [{v:=refV 4 ⟨#[]⟩ ⟨#[]⟩,recovered:=false}]/\Uq w w')∨
   (¬Av ks (AX text refs wd)/\ks.length<600/\births<1000000000/\e=.returned (.string (AX text refs wd))/\(∃O',DU w' base d m O' P L wd now given (births+1) (CD ks ⟨AX text refs wd,births+1,text,refs⟩) ps ls/\(O'.ownBlock=O.ownBlock∨∃g,O'.ownBlock=some g/\w.heap.size<=g))/\Tn (d::m::O.ownBlock.toList) w w')))
theorem Rl (base d m:Nat) (O P L:Value) (wd now given births:Int) (ks:List Kd) (ps:List Pd) (ls:List Ld) (text:ByteArray) (refs:List ByteArray) (ra:Option Addr) (rc:Nat) (w:World) (h:DU w base d m O P L wd now given births ks ps ls) (yV:En wd ks) (h1:1<=wd) (yY:∀k∈ks,k.text.size<=maxLen) (yW:((AX text refs wd).size:Int)=wd) (xP:text.size<=maxLen) (xV:refs.length<=1000) (xM:0<=births) (xS:births<=1000000000) (hr:CA w base (vB d m O P L) ra refs):
 Calls prog 87 #[.pointer (some ⟨d,0,none⟩),.agg #[.string text,.slice ra refs.length rc]] w (SL base d m O P L wd now given births ks ps ls text refs w):=by
 obtain⟨W,hW⟩:∃W,W=w.alloc (.cells #[.string text,.slice ra refs.length rc] 40):=⟨_,rfl⟩;have bW:=(AC hW).1;have xW:=(AC hW).2.1;have x0:=(AC hW).2.2;have HW:Hid _:=hW;have HD:Hid (∀X,Uq W X->DU X base d m O P L wd now given births ks ps ls/\CA X base (vB d m O P L) ra refs/\Aa X w.heap.size [.string text,.slice ra refs.length rc]/\Uq w X):=fun X hX=>by
  have hb:=bW.trans (hX.mono (by omega));exact⟨h.below hb,hr.move (U:=[]) (Tn.of hb) (by simp) (fun b hb=> .inl hb),Aa.below x0 hX,hb⟩
 have zH:Hid _:=yV;have xH:Hid _:=yY;have hlo:=h.lo;clear hW h hr bW yV yY;obtain⟨zT,zU⟩:=Aa.c2 x0 0 1;go_enter func87,ntmps87;go_upto_region 1 with fail;rw[←HW.o];clear HW;go_wp2
 go_loopw [15] (fun i wr=>∃(k:Nat),k<=refs.length/\i=.int .i64 k/\Hid ((∀r∈refs.take k,Av ks r)/\Uq W wr)) (fun i _=>refs.length -(intOf i).toNat)
 case atStart=>exact⟨0,Nat.zero_le _,rfl,⟨fun r hr=>by simp at hr,Below.refl _ _⟩⟩
 case round=>
  clear zT zU x0;obtain⟨k,hk,rfl,HI⟩:=hrel;obtain⟨zP,zQ,xr,yS⟩:=HD.o wr HI.o.2;have yF:Hid _:=zP;have yC:Hid _:=yS;obtain⟨zT,zU⟩:=Aa.c2 xr 0 1;by_cases hlt:k<refs.length
  ·obtain⟨b,off,ha,xT,hc⟩:=zQ.row.at hlt
   subst ha;have HG:Hid _:=Uu hlt;have c0:=hc k _ HG.o;have xI:Hid _:=Uv hlt;clear hc zP zQ;generalize refs[k]=r at *
   by_cases hth:Av ks r
   ·have yJ:Hid _:=Dj base d m O P L wd now given births ks ps ls r wr yF.o.dr zH.o.sz hth
    have zW:Hid _:=hth;clear hth;go_wp2_with fail;refine Calls.mono yJ.o ?_;rintro e w2 ⟨rfl,zG⟩;have zJ:Hid _:=HI.o.2.trans (zG.mono HI.o.2.size);clear yJ zG c0 zT zU xr;go_wp2;refine⟨⟨k+1,by omega,by go_num,⟨?_,zJ.o⟩⟩,by simp[intOf];omega⟩;rw[xI.o];intro r' zI;rcases List.mem_append.1 zI with zI|zI
    ·exact HI.o.1 r' zI
    ·simp at zI
     rw[zI];exact zW.o
   ·have xE:Hid _:=GV base d m O P L wd now given births ks ps ls r wr yF.o.dr zH.o.sz hth
    have zW:Hid _:=hth;clear hth;go_wp2_with fail;refine Calls.mono xE.o ?_;rintro e w2 ⟨rfl,zG⟩;go_wp2;exact⟨rfl,.inl ⟨fun zA=>zW.o (zA r (Ux HG.o)),rfl,yC.o.trans (zG.mono yC.o.size)⟩⟩
  ·obtain rfl:k=refs.length:=by omega
   have zA:=HI.o.1;rw[Uw (Us)] at zA;have zB:Hid _:=zA;obtain⟨c0,_⟩:=zP.dr.box 0 _ rfl;have yB:Hid _:=HI.o.2;clear zA HI;have xQ:=yB.o.size;have D0:Below wr.heap.size wr wr.drew:=(Below.refl _ _).drew;have HF:Hid _:=Gj text ra rc refs wd wr.drew (Ad.below' zQ.row D0) (by omega) xP;clear zP zQ;go_upto_region 6 with fail;go_region_with (go_at_call 98;refine Calls.mono HF.o ?_;rintro e w2 ⟨rfl,zG⟩)
   all_goals
    have zJ:Hid _:=yB.o.trans ((D0.trans zG).mono xQ);obtain⟨yL,xL,xR,zZ⟩:=HD.o w2 zJ.o;obtain⟨xK,_⟩:=yL.dr.box 0 _ rfl;have HS:Hid _:=Po (Am text refs wd) wd w2 (KZ _ _ _) h1 zH.o.w8;have xG:Hid (BE (Am text refs wd).data.toList wd.toNat=AX text refs wd):=rfl;rw[xG.o] at HS;generalize hFF:Am text refs wd=FF at *
    generalize hSS:AX text refs wd=SS at *
    clear zG c0 zT zU xr HF D0 yS;go_wp2_with fail;refine Calls.mono HS.o ?_;rintro e w3 ⟨rfl,yQ⟩;have xC:Hid _:=zJ.o.trans (yQ.mono zJ.o.size);obtain⟨zO,yP,xB,zK⟩:=HD.o w3 xC.o;obtain⟨d0,d1⟩:=Aa.c2 zO.dr.box 0 1;have yE:Hid _:=zO;have xF:Hid _:=yP;have xJ:Hid _:=xB;have zC:Hid _:=zK;obtain⟨n3,f3,xU,zY,zX⟩:=zO.dr.map;clear yQ HS xK yL xL xR zZ yP xB zK zO
    rcases Mh wd m n3 f3 ks w3 w3.heap.size SS w3 zY zX.holds yW with⟨yU,zL⟩|⟨x,xa,xc,zS,xA,yZ,zL⟩
    ·have HC:Hid _:=zL
     have yI:Hid _:=yU;clear zL yU zY zX;go_wp2_with fail;refine Calls.mono HC.o ?_;rintro e w4 ⟨rfl,zE⟩;obtain⟨Y,hY⟩:∃Y,Y=w4.alloc (.cells #[.string ⟨#[]⟩,.int .i64 0,.string ⟨#[]⟩,.slice none 0 0] 115):=⟨_,rfl⟩;have bY:=(AC hY).1;have zD:Hid (Uq w3 Y):=zE.trans (bY.mono zE.size);have HY:Hid _:=hY;have yD:=yE.o.below zD.o;have yX:=Aa.below xJ.o zD.o;obtain⟨y0,y1⟩:=Aa.c2 yX 0 1
     have zF:Hid _:=zC.o.trans (zD.o.mono zC.o.size);by_cases hfull:ks.length=600∨births=1000000000
     ·have HL:Hid _:=PI base d m O P L wd now given births ks ps ls SS text ra refs.length rc Y yD hfull
      have xD:Hid _:=hfull;clear zE hY bY yD yX hfull d0 d1 HC;go_upto_region 10 with fail;rw[←HY.o];go_wp2_with fail;refine Calls.mono HL.o ?_;rintro e w5 ⟨rfl,zR⟩;go_wp2;exact⟨rfl,.inr ⟨zB.o,.inr (.inr (.inl ⟨hSS▸yI.o,xD.o,rfl,zF.o.trans (zR.mono zF.o.size)⟩))⟩⟩
     ·have yT:ks.length<600:=by have:=zH.o.len;omega
      have yR:births<1000000000:=by omega
      have HL:Hid _:=Rk base d m O P L wd now given births ks ps ls SS text refs ra rc Y yD zH.o yW yT xM yR (CA.move xF.o (U:=[]) (Tn.of zD.o) (by simp) (fun b hb=> .inl hb));clear zE hY bY yD yX hfull d0 d1 HC;go_upto_region 10 with fail;rw[←HY.o];go_wp2_with fail;refine Calls.mono HL.o ?_;rintro e w5 ⟨rfl,⟨O',yM,yN⟩,yO⟩;have HQ:Hid _:=And.intro yM (And.intro yN yO);clear yM yN yO HL;go_wp2
      go_ret;subst hSS;refine .inr ⟨zB.o,.inr (.inr (.inr ⟨yI.o,yT,yR,rfl,⟨O',HQ.o.1,?_⟩,(Tn.of zF.o).trans HQ.o.2.2⟩))⟩;rcases HQ.o.2.1 with e|⟨g,e,hg⟩
      ·exact .inl e
      ·exact .inr ⟨g,e,Uz zF.o.size hg⟩
    ·have HC:Hid _:=zL
     have zN:Hid (x∈ks/\x.sum=SS):=⟨zS,xA⟩;clear zL zY zX;go_wp2_with fail;refine Calls.mono HC.o ?_;rintro e w4 ⟨rfl,zE⟩;obtain⟨Y,hY⟩:∃Y,Y=w4.alloc (.cells #[.string x.sum,.int .i64 x.born,.string x.text,.slice xa x.refs.length xc] 115):=⟨_,rfl⟩;have bY:=(AC hY).1;have zD:Hid (Uq w3 Y):=zE.trans (bY.mono zE.size);have HY:Hid _:=hY;have yD:=yE.o.below zD.o;have yK:=(AC hY).2.2
     obtain⟨y2,y3⟩:=Aa.c2 yK 2 3;obtain⟨e0,_⟩:=yD.dr.box 0 _ rfl;have zF:Hid _:=zC.o.trans (zD.o.mono zC.o.size);have DY:Below Y.heap.size Y Y.drew:=(Below.refl _ _).drew;have xN:=yD.lo;have zM:=Ad.below' yZ (zD.o.trans (DY.mono zD.o.size));have yG:Hid _:=Gj x.text xa xc x.refs wd Y.drew zM (by have:=(zH.o.refs x zS).1;omega) (xH.o x zS);clear zE hY bY yD yK d0 d1 HC yZ zM zS xA
     go_upto_region 12 with fail;rw[←HY.o];go_region_with (go_at_call 98;refine Calls.mono yG.o ?_;rintro e w5 ⟨rfl,zR⟩)
     all_goals
      have yA:Hid _:=zF.o.trans ((DY.trans zR).mono zF.o.size);clear zR y2 y3 e0 yG;by_cases hsame:Am x.text x.refs wd=FF
      ·have hq:(FF.toList !=FF.toList)=false:=by simp
       rw[hsame];have zV:Hid _:=hsame;clear hsame;go_wp2;go_ret;subst hSS;exact .inr ⟨zB.o,.inl ⟨x,zN.o.1,zN.o.2,zV.o.trans hFF.symm,rfl,yA.o⟩⟩
      ·have zV:Hid _:=hsame
       have xO:=Ck hsame;have hq:((Am x.text x.refs wd).toList !=FF.toList)=true:=by simp[bne,xO]
       clear hsame;generalize hGG:Am x.text x.refs wd=GG at *
       have yH:Hid _:=hGG;clear hGG;go_wp2;subst hSS;refine⟨rfl,.inr ⟨zB.o,.inr (.inl ⟨x,zN.o.1,zN.o.2,?_,?_,yA.o⟩)⟩⟩
       ·rw[yH.o,hFF]
        exact zV.o
       ·rw[yH.o,hFF]
        rfl
end Go.Proofs.YtflhhhnlhlaehaaGreatDoor
