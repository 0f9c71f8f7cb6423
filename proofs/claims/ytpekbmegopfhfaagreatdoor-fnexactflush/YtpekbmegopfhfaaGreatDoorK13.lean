import Derived.Test.YtpekbmegopfhfaaGreatDoorK12
set_option maxRecDepth 100000
set_option maxHeartbeats 16000000
namespace Go.Proofs.YtpekbmegopfhfaaGreatDoor
open Go.ChangeShapes Go.WideShapes Go.ChangeAt Go.RowKit _root_.Go.Proofs.Tryz
section
open Go.ChangeShapes Go.WideShapes Go.ChangeAt Go.RowKit Go.Lib
theorem Ff:∃i:TypeInfo,prog.info? 139=some i/\i.zero=some (.agg Ca)/\i.size=8/\i.bytes=8:=by
 obtain⟨i0,hi,h0,h1,h2⟩:=info_parts Kt;exact⟨i0,hi,h0,h1,h2⟩
theorem GL {w:World} {vb:Nat} {x:ByteArray} (hv:w.heap[vb]?=some (.cells (Aj x).toArray 139 (0,0))):∀j u,(Ab Aj [x])[j]?=some u->w.cell? (XL vb j)=some u:=by
 intro j u hu;rw[Ab,List.flatMap_cons,List.flatMap_nil,List.append_nil] at hu;simp only[World.cell?,hv];rw[←hu];simp
theorem LN (P:Value) (ss:List ByteArray) (x:ByteArray) (vb:Nat) (w:World) (base:Nat) (ho:w.ownsRow base 139 8 P ss.length (Ab Aj ss)) (hl:ss.length<=600) (zB:base<=w.heap.size) (hv:w.heap[vb]?=some (.cells (Aj x).toArray 139 (0,0))):
 Calls prog 229 #[P,XJ ss.length,.slice (some ⟨vb,0,none⟩) 1 1] w fun e w'=>∃P',e=.returned P'/\w'.ownsRow base 139 8 P' (ss.length+1) (Ab Aj (ss++[x]))/\w.grownBy w' P.ownBlock/\(P'.ownBlock=P.ownBlock∨P'.ownBlock=some w.heap.size):=by
 obtain⟨i0,zA,zE,zC,zF⟩:=Ff;obtain⟨v',w',hr,h2,h3,_,h5⟩:=run_append_own_at (P:=prog) w base 129 129 139 i0 _ 8 8 underlying129 zA zE zC zF rfl (by decide) P ss.length (Ab Aj ss) ho ⟨vb,0,none⟩ 1 1 (Ab Aj [x]) (by rw[Bo DO];rfl) (fun j u hu=>by rw[Go.WideShapes.add_plain,Nat.zero_add];exact GL hv j u hu) (Dt _) (by unfold maxLen;omega) (by omega) zB;rw[←Bf] at h2
 have HO:Hid _:=And.intro h2 (And.intro h3 h5);clear h2 h3 h5;rcases ho.2 with⟨e,zG⟩|⟨g,cap,zH,e,hb,hg,h1,h2,h3,h4⟩
 ·subst e
  rw[zG] at HO ⊢;clear ho hv zA zE zC zF;go_enter func229,ntmps229;go_wp2_with (at_builtin;refine Lib.wpList_append_run _ rfl _ _ _ _ rfl _ _ rfl rfl _ _ hr ?_);go_ret;exact⟨v',rfl,HO.o⟩
 ·subst e
  clear ho hv zA zE zC zF hg h3 h4;unfold maxLen at h2;by_cases hc:cap=ss.length
  ·subst hc
   go_enter func229,ntmps229;go_wp2_with (at_builtin;refine Lib.wpList_append_run _ rfl _ _ _ _ rfl _ _ rfl rfl _ _ hr ?_);go_ret;exact⟨v',rfl,HO.o⟩
  ·go_enter func229,ntmps229
   go_wp2_with (at_builtin;refine Lib.wpList_append_run _ rfl _ _ _ _ rfl _ _ rfl rfl _ _ hr ?_);go_ret;exact⟨v',rfl,HO.o⟩
theorem JX (g cap i:Nat) (ss:List ByteArray) (x:ByteArray) (vb:Nat) (w:World) (base:Nat) (ho:w.ownsRow base 139 8 (.slice (some ⟨g,0,none⟩) ss.length cap) ss.length (Ab Aj ss)) (hl:ss.length<=600) (hi:i<ss.length) (zH:ss.length+1<=cap) (zO:vb≠g) (hv:w.heap[vb]?=some (.cells (Aj x).toArray 139 (0,0))):
 Calls prog 229 #[.slice (some ⟨g,0,none⟩) ss.length cap,XJ i,.slice (some ⟨vb,0,none⟩) 1 1] w fun e w'=>e=.returned (.slice (some ⟨g,0,none⟩) (ss.length+1) cap)/\w'.ownsRow base 139 8 (.slice (some ⟨g,0,none⟩) (ss.length+1) cap) (ss.length+1) (Ab Aj (ss.take i++[x]++ss.drop i))/\w.grownBy w' (some g):=by
 obtain⟨i0,zB,zV,zI,zW⟩:=Ff;obtain⟨zC,hg,yH,zT,zN,zU⟩:∃zC,w.heap[g]?=some (.cells zC 139 (0,0))/\ss.length<=cap/\cap<=maxLen/\zC.size=cap *8/\zC.toList.take (ss.length *8)=Ab Aj ss:=by
  rcases ho.2 with⟨e,_⟩|⟨g',zR,zC,e,hb,hg,h1,h2,h3,h4⟩
  ·cases e
  ·cases e;exact⟨zC,hg,h1,h2,h3,h4⟩
 have zM:=Bo DO ss;have zK:(Ab Aj [x]).length=8:=by rw[Bo DO];rfl
 have zP:((Ab Aj ss).drop (i *8)).length=(ss.length -i) *8:=by rw[List.length_drop,zM];omega
 have zA:∀j,j<cap *8->(w.cell? (XL g j)).isSome=true:=fun j hj=>by
  simp only[World.cell?,hg];rw[Array.getElem?_eq_getElem (by omega)];rfl
 have zS:∀lb cb,(callFunc 244 #[.slice (some ⟨vb,0,none⟩) 1 1,.slice (some ⟨g,(i+1) *8,none⟩) lb cb]).run prog w=.ok (.value (.bool false)) w:=fun lb cb=>by
  rw[run_callFunc_extern func244 (by kernel_rfl) (by kernel_rfl) (by kernel_rfl) (e:=Extern.SlicesOverlaps.overlaps #[129,129] #[4]) (by kernel_rfl),
   Lib.run_overlaps_apart w 129 4 139 underlying129 8 (fun w=>by simp[sizeOf,typeInfo,zB,zI]) ⟨vb,0,none⟩ ⟨g,(i+1) *8,none⟩ 1 1 lb cb zO 139 139 ((Aj x).toArray:Array Value).size zC.size (by simp only[World.shape?,hv]) (by simp only[World.shape?,hg]) (by rw[zN];omega) (by simp only[World.frozen?,hv];rfl) (by simp[World.frozen?,hv])]
  rfl
 have zG:∀ty dc sc,(Builtin.copy_ #[129,129] ty #[.slice (some ⟨g,(i+1) *8,none⟩) (ss.length+1 -(i+1)) dc,.slice (some ⟨g,i *8,none⟩) (ss.length+1 -i) sc]).run prog w.drew=.ok (goInt (Nat.min (ss.length+1 -i) (ss.length+1 -(i+1)))) (w.drew.setCells g ((i+1) *8) ((Ab Aj ss).drop (i *8))):=fun ty dc sc=>
  Cr w.drew 129 129 ty 139 i0 8 g ((i+1) *8) (ss.length+1 -(i+1)) dc ⟨g,i *8,none⟩ (ss.length+1 -i) sc ((Ab Aj ss).drop (i *8)) underlying129 zB zI (by rw[zP];congr 1;show _=min _ _;omega)
   (fun j v hj=>by
     rw[Go.WideShapes.add_plain];rw[List.getElem?_drop] at hj;have:=(XC hj).1;exact(ho.cellAt _ (by omega)).trans hj)
   (fun j hj=>zA _ (by omega)) (fun j _=>ho.frozenAt _) (fun v hv=>Dt _ v (List.mem_of_mem_drop hv))
 obtain⟨W1,zE⟩:∃W1,W1=w.drew.setCells g ((i+1) *8) ((Ab Aj ss).drop (i *8)):=⟨_,rfl⟩;have zJ:∀ty dc,(Builtin.copy_ #[129,129] ty #[.slice (some ⟨g,i *8,none⟩) (ss.length+1 -i) dc,.slice (some ⟨vb,0,none⟩) 1 1]).run prog W1=.ok (goInt (Nat.min 1 (ss.length+1 -i))) (W1.setCells g (i *8) (Ab Aj [x])):=fun ty dc=>
  Cr W1 129 129 ty 139 i0 8 g (i *8) (ss.length+1 -i) dc ⟨vb,0,none⟩ 1 1 (Ab Aj [x]) underlying129 zB zI (by rw[zK,show Nat.min 1 (ss.length+1 -i)=1 from Nat.min_eq_left (by omega),Nat.one_mul])
   (fun j v hj=>by
     rw[Go.WideShapes.add_plain,Nat.zero_add,zE,World.cell?_setCells_out g _ _ _ _ (fun h _=>absurd h zO)];exact GL hv j v hj)
   (fun j hj=>by rw[zE];exact Gy g ((Ab Aj ss).drop (i *8)) ((i+1) *8) w.drew (fun t ht=>zA _ (by omega)) (i *8+j) (zA _ (by omega))) (fun j _=>by rw[zE,World.frozen?_setCells];exact ho.frozenAt _) (Dt _)
 have zF:(W1.setCells g (i *8) (Ab Aj [x])).ownsRow base 139 8 (.slice (some ⟨g,0,none⟩) (ss.length+1) cap) (ss.length+1) (Ab Aj (ss.take i++[x]++ss.drop i))/\w.grownBy (W1.setCells g (i *8) (Ab Aj [x])) (some g):=by
  refine⟨?_,?_⟩
  ·rw[Bf,Bf,←EZ DO ss i (by omega),←Ex DO ss i (by omega),zE]
   exact Ln (w:=w.drew) (Ad ho ((Below.refl _ _).drew)) (by omega) zK zH
  ·rw[zE]
   exact Ap (CQ (BM g _ _ _)) (BM g _ _ _)
 have HF:Hid _:=zF;rw[←zE] at zG;unfold maxLen at zT;have zI:¬((i:Int)=(ss.length:Int)):=by omega
 have yF:(0:Int)<=(i:Int)+1:=by omega
 have yC:(i:Int)+1<=(ss.length:Int)+1:=by omega
 have zX:((i:Int)+1).toNat=i+1:=by omega
 have yJ:((ss.length:Int)+1).toNat=ss.length+1:=by omega
 have yI:(0:Int)<=(ss.length:Int)+1:=by omega
 have yG:(ss.length:Int)+1<=(cap:Int):=by omega
 have zY:¬(cap=i+1):=by omega
 have yA:¬(cap=i):=by omega
 have yB:i<=ss.length+1:=by omega
 have zZ:(i:Int)<=(ss.length:Int)+1:=by omega
 have yE:(i:Int)<=(ss.length:Int):=by omega
 have mixed:prog.follows .mixedOrders=true:=by kernel_rfl
 have yK:IntKind.i64.wrap ((i:Int)+1)=(i:Int)+1:=by rw[IntKind.wrap_i64];omega
 have yD:IntKind.i64.wrap ((ss.length:Int)+1)=(ss.length:Int)+1:=by rw[IntKind.wrap_i64];omega
 clear ho zA zF hv hg zU zN zB zV zW zM zK zP zE;go_enter func229,ntmps229;go_wp2_with (simp only[zS])
 go_region_law_o (refine DL rfl _ _ 129 129 rfl (.slice (some ⟨g,(i+1) *8,none⟩) (ss.length+1 -(i+1)) (cap -(i+1))) (.slice (some ⟨g,i *8,none⟩) (ss.length+1 -i) (cap -i)) (by simp[Act.eval,Act.put]) (by simp[Act.eval,Act.put]) (zG 3 (cap -(i+1)) (cap -i)) ?_)
 go_wp2_with (at_builtin;refine CZ _ rfl _ _ 129 129 rfl _ _ rfl rfl (zJ _ _) ?_);go_ret;exact⟨rfl,HF.o⟩
theorem KD (g cap i:Nat) (ss:List ByteArray) (x:ByteArray) (vb:Nat) (w:World) (base:Nat) (ho:w.ownsRow base 139 8 (.slice (some ⟨g,0,none⟩) ss.length cap) ss.length (Ab Aj ss)) (hl:ss.length<=600) (hi:i<ss.length) (zH:cap<ss.length+1) (zJ:base<=w.heap.size) (hv:w.heap[vb]?=some (.cells (Aj x).toArray 139 (0,0))):
 Calls prog 229 #[.slice (some ⟨g,0,none⟩) ss.length cap,XJ i,.slice (some ⟨vb,0,none⟩) 1 1] w fun e w'=>∃G,e=.returned (.slice (some ⟨w.heap.size,0,none⟩) (ss.length+1) G)/\w'.ownsRow base 139 8 (.slice (some ⟨w.heap.size,0,none⟩) (ss.length+1) G) (ss.length+1) (Ab Aj (ss.take i++[x]++ss.drop i))/\w.grownBy w' none:=by
 obtain⟨i0,zB,zZ,zK,zN⟩:=Ff;have zV:g<w.heap.size:=(Ac ho rfl).2;have yA:=(Array.getElem?_eq_some_iff.1 hv).1;have yR:ss.length<=cap:=by
  rcases ho.2 with⟨e,_⟩|⟨g',yE,yM,e,hb,hg,h1,h2,h3,h4⟩
  ·cases e
  ·cases e;exact h1
 have zM:=Bo DO ss;have zO:(Ab Aj [x]).length=8:=by rw[Bo DO];rfl
 have yD:((Ab Aj ss).drop (i *8)).length=(ss.length -i) *8:=by rw[List.length_drop,zM];omega
 have zR:((Ab Aj ss).take (i *8)).length=i *8:=by rw[List.length_take,zM];omega
 have zG:(Builtin.firstCells i0.size i (.slice (some ⟨g,0,none⟩) i cap)).run prog w.drew=.ok ((Ab Aj ss).take (i *8)).toArray w.drew:=by
  rw[zK];exact run_firstCells_some w.drew 8 i ⟨g,0,none⟩ i cap ((Ab Aj ss).take (i *8)) zR (fun j v hj=>by
   rw[Go.WideShapes.add_plain,Nat.zero_add];rw[List.getElem?_take] at hj;split at hj
   ·exact(ho.cellAt _ (by omega)).trans hj
   ·cases hj)
 obtain⟨G,hG⟩:∃G,G=grownCap w (ss.length+1) cap 139:=⟨_,rfl⟩;obtain⟨zc,yF,zT⟩:∃zc:Array Value,zc=Value.cells (.agg Ca)/\zc.size=8:=⟨_,rfl,by kernel_rfl⟩;obtain⟨zs,zP⟩:∃zs:List Value,zs=(Builtin.zeroCells zc (ss.length+1 -i)).toList++(Builtin.zeroCells zc (G -(ss.length+1))).toList:=⟨_,rfl⟩;have yG:ss.length+1<=G:=by rw[hG];exact grownCap_ge w _ _ _
 have zI:G<=maxLen:=by
  rw[hG];exact grownCap_le_maxLen w (ss.length+1) cap 139 (by unfold maxLen;omega)
 have zY:i *8+zs.length=G *8:=by
  rw[zP];simp[Builtin.zeroCells,zT];omega
 have zX:∀ty,(Builtin.append_ #[129,3] ty #[.slice (some ⟨g,0,none⟩) i cap,XJ ((ss.length:Int)+1 -(i:Int))]).run prog w=
  .ok (.slice (some ⟨w.heap.size,0,none⟩) (ss.length+1) G) (w.drew.alloc (.cells ((Ab Aj ss).take (i *8)++zs).toArray 139)):=fun ty=>by
  have yC:i+(ss.length+1 -i)=ss.length+1:=by omega
  have h:=Lib.run_append_grow_zeros (P:=prog) w 129 3 ty 139 i0 _ .i64 .i64 underlying129 underlying3 zB zZ (some ⟨g,0,none⟩) i cap ((Ab Aj ss).take (i *8)) zG (ss.length+1 -i) (by omega) (by rw[zK];omega) (by omega) (by omega) (by rw[zN];omega) (by rw[zN,yC];exact growslice_fits zH (by omega));rw[yC,←hG,←yF] at h;rw[show(ss.length:Int)+1 -(i:Int)=((ss.length+1 -i:Nat):Int) by omega,h,zP]
  have e:((Ab Aj ss).take (i *8)).toArray++Builtin.zeroCells zc (ss.length+1 -i)++Builtin.zeroCells zc (G -(ss.length+1))=((Ab Aj ss).take (i *8)++((Builtin.zeroCells zc (ss.length+1 -i)).toList++(Builtin.zeroCells zc (G -(ss.length+1))).toList)).toArray:=by
   apply Array.toList_inj.1;simp
  rw[e]
 obtain⟨W1,zE⟩:∃W1,W1=w.drew.alloc (.cells ((Ab Aj ss).take (i *8)++zs).toArray 139):=⟨_,rfl⟩;have zA:W1.heap[w.heap.size]?=some (.cells ((Ab Aj ss).take (i *8)++zs).toArray 139 (0,0)):=by rw[zE];exact heap_alloc_new w.drew _
 have hN:∀j,j<G *8->(W1.cell? (XL (w.heap.size) j)).isSome=true:=fun j hj=>by
  simp only[World.cell?,zA];rw[Array.getElem?_eq_getElem (by simp[zR];omega)];rfl
 have zU:∀j,W1.frozen? ⟨w.heap.size,j,none⟩=false:=fun j=>by simp[World.frozen?,zA]
 have hO:∀b,b<w.heap.size->W1.heap[b]?=w.heap[b]?:=fun b hb=>by rw[zE];exact FO w.drew _ hb
 have zW:∀ty dc,(Builtin.copy_ #[129,129] ty #[.slice (some ⟨w.heap.size,i *8,none⟩) (ss.length+1 -i) dc,.slice (some ⟨vb,0,none⟩) 1 1]).run prog W1=.ok (goInt (Nat.min 1 (ss.length+1 -i))) (W1.setCells w.heap.size (i *8) (Ab Aj [x])):=fun ty dc=>
  Cr W1 129 129 ty 139 i0 8 w.heap.size (i *8) (ss.length+1 -i) dc ⟨vb,0,none⟩ 1 1 (Ab Aj [x]) underlying129 zB zK (by rw[zO,show Nat.min 1 (ss.length+1 -i)=1 from Nat.min_eq_left (by omega),Nat.one_mul])
   (fun j v hj=>by
     rw[Go.WideShapes.add_plain,Nat.zero_add,World.cell?_of_block (hO vb yA)];exact GL hv j v hj)
   (fun j hj=>hN _ (by omega)) (fun j _=>zU _) (Dt _)
 obtain⟨W2,zC⟩:∃W2,W2=(W1.setCells w.heap.size (i *8) (Ab Aj [x])).drew:=⟨_,rfl⟩;have zS:∀ty dc sc,(Builtin.copy_ #[129,129] ty #[.slice (some ⟨w.heap.size,(i+1) *8,none⟩) (ss.length+1 -(i+1)) dc,.slice (some ⟨g,i *8,none⟩) (ss.length -i) sc]).run prog W2=.ok (goInt (Nat.min (ss.length -i) (ss.length+1 -(i+1)))) (W2.setCells w.heap.size ((i+1) *8) ((Ab Aj ss).drop (i *8))):=fun ty dc sc=>
  Cr W2 129 129 ty 139 i0 8 w.heap.size ((i+1) *8) (ss.length+1 -(i+1)) dc ⟨g,i *8,none⟩ (ss.length -i) sc ((Ab Aj ss).drop (i *8)) underlying129 zB zK (by rw[yD];congr 1;show _=min _ _;omega)
   (fun j v hj=>by
     rw[List.getElem?_drop] at hj;have:=(XC hj).1;rw[Go.WideShapes.add_plain,zC,FQ,World.cell?_setCells_out _ _ _ _ _ (fun h _=>absurd h (Nat.ne_of_lt zV)),World.cell?_of_block (hO g zV)];exact(ho.cellAt _ (by omega)).trans hj)
   (fun j hj=>by rw[zC,FQ];exact Gy w.heap.size (Ab Aj [x]) (i *8) W1 (fun t ht=>hN _ (by omega)) ((i+1) *8+j) (hN _ (by omega))) (fun j _=>by rw[zC,Iu,World.frozen?_setCells];exact zU _) (fun v hv=>Dt _ v (List.mem_of_mem_drop hv))
 have zF:(W2.setCells w.heap.size ((i+1) *8) ((Ab Aj ss).drop (i *8))).ownsRow base 139 8 (.slice (some ⟨w.heap.size,0,none⟩) (ss.length+1) G) (ss.length+1) (Ab Aj (ss.take i++[x]++ss.drop i))/\w.grownBy (W2.setCells w.heap.size ((i+1) *8) ((Ab Aj ss).drop (i *8))) none:=by
  refine⟨?_,?_⟩
  ·rw[Bf,Bf,←EZ DO ss i (by omega),←Ex DO ss i (by omega),zC,←It]
   exact Ad (MO (w:=W1) zM (by omega) zO zJ zA zY yG zI) ((Below.refl _ _).drew)
  ·have s1:W1.heap.size=w.heap.size+1:=by rw[zE];simp
   have e1:w.grownBy W1 none:=by rw[zE];exact⟨rfl,rfl,rfl,by simp,fun b hb _=>FO w.drew _ hb⟩
   have e2:W1.grownBy (W2.setCells w.heap.size ((i+1) *8) ((Ab Aj ss).drop (i *8))) (some w.heap.size):=by
    rw[zC];exact Ap (Ap (BM w.heap.size (Ab Aj [x]) (i *8) W1) (IW _ _)) (BM w.heap.size ((Ab Aj ss).drop (i *8)) ((i+1) *8) _)
   exact⟨e2.os.trans e1.os,e2.tape.trans e1.tape,e2.output.trans e1.output,XI e1.size e2.size,fun b hb _=>(e2.block b (by omega) (by simp;omega)).trans (e1.block b hb (by simp))⟩
 have HF:Hid _:=zF;have yB:G<=9223372036854775807:=by unfold maxLen at zI;omega
 have yI:¬((i:Int)=(ss.length:Int)):=by omega
 have yJ:(cap:Int)<(ss.length:Int)+1:=by omega
 have yH:(0:Int)<=(i:Int)+1:=by omega
 have yT:(i:Int)+1<=(ss.length:Int)+1:=by omega
 have yL:((i:Int)+1).toNat=i+1:=by omega
 have yP:¬(cap=i):=by omega
 have yO:¬(G=i):=by omega
 have yN:¬(G=i+1):=by omega
 have yU:i<=ss.length+1:=by omega
 have yQ:(i:Int)<=(ss.length:Int)+1:=by omega
 have yW:(i:Int)<=(ss.length:Int):=by omega
 have mixed:prog.follows .mixedOrders=true:=by kernel_rfl
 have yK:i<=cap:=by omega
 have yX:IntKind.i64.wrap ((i:Int)+1)=(i:Int)+1:=by rw[IntKind.wrap_i64];omega
 have yV:IntKind.i64.wrap ((ss.length:Int)+1)=(ss.length:Int)+1:=by rw[IntKind.wrap_i64];omega
 have yS:IntKind.i64.wrap ((ss.length:Int)+1 -(i:Int))=(ss.length:Int)+1 -(i:Int):=by rw[IntKind.wrap_i64];omega
 rw[←zE] at zX;clear ho zF hv zB zZ zN zM zO yD zR zG hG zP zY zA hN zU hO zE zV yA;go_enter func229,ntmps229;go_wp2_with (first
  |(at_builtin;refine Lib.wpList_append_run _ rfl _ _ _ _ rfl _ _ rfl rfl _ _ (zX _) ?_)
  |(at_builtin;refine CZ _ rfl _ _ 129 129 rfl _ _ rfl rfl (zW _ _) ?_))
 go_region_law_o (refine DL rfl _ _ 129 129 rfl (.slice (some ⟨w.heap.size,(i+1) *8,none⟩) (ss.length+1 -(i+1)) (G -(i+1))) (.slice (some ⟨g,i *8,none⟩) (ss.length -i) (cap -i)) (by simp[Act.eval,Act.put]) (by simp[Act.eval,Act.put]) (by rw[←zC];exact zS 3 (G -(i+1)) (cap -i)) ?_)
 go_wp2;go_ret;rw[←zC];exact⟨G,rfl,HF.o⟩
theorem LO (P:Value) (i:Nat) (ss:List ByteArray) (x:ByteArray) (vb:Nat) (w:World) (base:Nat) (ho:w.ownsRow base 139 8 P ss.length (Ab Aj ss)) (hl:ss.length<=600) (hi:i<=ss.length) (zA:base<=w.heap.size) (zB:P.ownBlock≠some vb) (hv:w.heap[vb]?=some (.cells (Aj x).toArray 139 (0,0))):
 Calls prog 229 #[P,XJ i,.slice (some ⟨vb,0,none⟩) 1 1] w fun e w'=>∃P',e=.returned P'/\w'.ownsRow base 139 8 P' (ss.length+1) (Ab Aj (ss.take i++[x]++ss.drop i))/\w.grownBy w' P.ownBlock/\(P'.ownBlock=P.ownBlock∨P'.ownBlock=some w.heap.size):=by
 rcases Nat.lt_or_ge i ss.length with h|h
 ·rcases ho.2 with⟨e,hn⟩|⟨g,cap,zC,e,hb,hg,h1,h2,h3,h4⟩
  ·omega
  ·subst e
   rcases Nat.lt_or_ge cap (ss.length+1) with hc|hc
   ·refine Calls.mono (KD g cap i ss x vb w base ho hl h hc zA hv) ?_
    rintro e w' ⟨G,rfl,q1,q2⟩;exact⟨_,rfl,q1,⟨q2.os,q2.tape,q2.output,q2.size,fun b hb _=>q2.block b hb (by simp)⟩,.inr rfl⟩
   ·refine Calls.mono (JX g cap i ss x vb w base ho hl h hc (fun e=>zB (by rw[e];rfl)) hv) ?_
    rintro e w' ⟨rfl,q1,q2⟩;exact⟨_,rfl,q1,q2,.inl rfl⟩
 ·obtain rfl:i=ss.length:=by omega
  rw[List.take_length,List.drop_length,List.append_nil];exact LN P ss x vb w base ho hl zA hv
end
theorem LP (a:Option Addr) (cap:Nat) (s:ByteArray) (w:World):
 Calls prog 239 #[.slice a 0 cap,Cc s,.func (.func 240) #[] #[]] w fun e w'=>e=.returned (.tuple #[XK,.bool false])/\Xz w w':=by
 unfold Cc CF;go_enter func239,ntmps239;go_wp2
 go_loopw [9,10] (fun i j wr=>i=XJ 0/\j=XJ 0/\Xz w wr) (fun _ _ _=>0)
 case atStart=>exact⟨rfl,rfl,XA⟩
 case round=>
  obtain⟨rfl,rfl,hb⟩:=hrel;have zA:=AB.ne wr;go_wp2;refine AE (by kernel_rfl) (by kernel_rfl) ?_
  repeat (go_big_quiet_step (fail))
  refine wpQuiet_nil ?_;intro m;go_wp2
  go_ret2
  exact⟨by first|rfl|simp[Act.put],hb.trans (m.h.mono hb.size)⟩
theorem UK (base:Nat) (O:Value) (ss:List ByteArray) (s:ByteArray) (w:World) (ho:w.ownsRow base 139 8 O ss.length (AM ss)) (hl:ss.length<=600) (zC:s.size<=8) (zB:∀x∈ss,x.size=s.size) (zA:ss.Pairwise (fun a b=>less a b=true)):
 Calls prog 239 #[O,Cc s,.func (.func 240) #[] #[]] w fun e w'=>∃i:Nat,e=.returned (.tuple #[XJ i,.bool (decide (ss[i]?=some s))])/\EE ss s i/\Xz w w':=by
 rcases ho.2 with⟨rfl,hz⟩|⟨g,cap,zE,rfl,_⟩
 ·have:ss=[]:=List.eq_nil_of_length_eq_zero hz
  subst this;refine(LP none 0 s w).mono ?_;rintro e w' ⟨rfl,hb⟩;exact⟨0,by simp,⟨XB,fun j x h=>by omega,fun j x _ hx=>by simp at hx⟩,hb⟩
 ·exact JI g cap ss s w base ho hl zC zB zA
theorem Vx (base d m:Nat) (oa:Option Addr) (oc:Nat) (P L:Value) (wd now given births:Int) (ks:List Kd) (s:ByteArray) (w:World) (zA:Aa w d [XJ wd,.map (some m),XJ now,XJ given,XJ births,.slice oa ks.length oc,P,L]) (zC:w.ownsRow base 139 8 (.slice oa ks.length oc) ks.length (AM (ks.map (·.sum))))
 (hk:ks.length<=600) (zM:s.size<=8) (zN:∀x∈ks,x.sum.size=s.size) (zB:(ks.map (·.sum)).Pairwise (fun a b=>less a b=true)):
 Calls prog 211 #[.pointer (some ⟨d,0,none⟩),Cc s] w fun e w'=>∃i:Nat,e=.returned (.tuple #[XJ i,.bool (decide ((ks.map (·.sum))[i]?=some s))])/\EE (ks.map (·.sum)) s i/\Xz w w':=by
 obtain⟨W,hW⟩:∃W,W=w.alloc (.cells #[.int .u8 (kB s 0),.int .u8 (kB s 1),.int .u8 (kB s 2),.int .u8 (kB s 3),.int .u8 (kB s 4),.int .u8 (kB s 5),.int .u8 (kB s 6),.int .u8 (kB s 7)] 139):=⟨_,rfl⟩;have hB:=(Aq hW).1;have cb:Aa W w.heap.size (Aj s):=by rw[hW];exact Aa.new w (Aj s) 139
 have zE:W.drew.ownsRow base 139 8 (.slice oa ks.length oc) (ks.map (·.sum)).length (AM (ks.map (·.sum))):=by
  rw[List.length_map];exact Ad zC hB.drew
 have HS:Hid _:=UK base (.slice oa ks.length oc) (ks.map (·.sum)) s W.drew zE (by rw[List.length_map];exact hk) zM (fun x hx=>by obtain⟨y,hy,rfl⟩:=List.mem_map.1 hx;exact zN y hy) zB
 have S0:W.drew.cell? (XL d 5)=some (.slice oa ks.length oc)/\(W.drew.cell? (XL (w.heap.size) 0)=some (.int .u8 (kB s 0))/\W.drew.cell? (XL (w.heap.size) 1)=some (.int .u8 (kB s 1))/\W.drew.cell? (XL (w.heap.size) 2)=some (.int .u8 (kB s 2))/\W.drew.cell? (XL (w.heap.size) 3)=some (.int .u8 (kB s 3))/\W.drew.cell? (XL (w.heap.size) 4)=some (.int .u8 (kB s 4))/\W.drew.cell? (XL (w.heap.size) 5)=some (.int .u8 (kB s 5))/\W.drew.cell? (XL (w.heap.size) 6)=some (.int .u8 (kB s 6))/\W.drew.cell? (XL (w.heap.size) 7)=some (.int .u8 (kB s 7))):=⟨(Aa.below zA hB 5 _ rfl).1,Gf (w:=W.drew) cb⟩
 have HW:Hid _:=hW;clear hW cb zE zA zC;unfold Cc CF at *
 go_enter func211,ntmps211;go_upto_region 1 with fail;rw[←HW.o];clear HW;obtain⟨s5,zJ,zI,zF,zG,zH,zO,zK,zP⟩:=S0;go_region_with (go_at_call 239;refine Calls.mono HS.o ?_;rintro e w1 ⟨i,rfl,hp,hb⟩)
 all_goals
  have HF:Hid _:=And.intro hp (hB.trans ((Dd hb).mono hB.size));clear hp hb s5 zJ zI zF zG zH zO zK zP HS;go_wp2
  go_ret2
  exact⟨i,by first|rfl|simp[Act.put],HF.o.1,HF.o.2⟩
def Dh (ks:List Kd) (x:Kd):List Kd:=ks.filter (fun k=>less k.sum x.sum)++[x]++ks.filter (fun k=> !(less k.sum x.sum))
theorem Jq {ks:List Kd} {x u:Kd}:u∈Dh ks x↔u∈ks++[x]:=by
 unfold Dh;simp only[List.mem_append,List.mem_filter,List.mem_singleton];cases less u.sum x.sum<;>simp
 ·constructor
  ·rintro(h|h)
   ·exact .inr h
   ·exact .inl h
  ·rintro(h|h)
   ·exact .inr h
   ·exact .inl h
theorem MP (ks:List Kd) (x:Kd):(Dh ks x).length=ks.length+1:=by
 unfold Dh;rw[List.length_append,List.length_append];have:∀l:List Kd,(l.filter (fun k=>less k.sum x.sum)).length+(l.filter (fun k=> !(less k.sum x.sum))).length=l.length:=by
  intro l;induction l with
  |nil=>rfl
  |cons y l ih=>cases h:less y.sum x.sum<;>simp[h]<;>omega
 have:=this ks;simp;omega
theorem PA {ks:List Kd} {x:Kd} {i:Nat} (h:EE (ks.map (·.sum)) x.sum i):Dh ks x=ks.take i++[x]++ks.drop i:=by
 have lo:∀k∈ks.take i,less k.sum x.sum=true:=fun k hk=>by
  obtain⟨j,hj⟩:=List.getElem?_of_mem hk;have zA:=(XC hj).1;rw[List.length_take] at zA;rw[List.getElem?_take_of_lt (by omega)] at hj;exact h.lo j k.sum (by omega) (by rw[List.getElem?_map,hj];rfl)
 have hi:∀k∈ks.drop i,less k.sum x.sum=false:=fun k hk=>by
  obtain⟨j,hj⟩:=List.getElem?_of_mem hk;rw[List.getElem?_drop] at hj;exact h.hi (i+j) k.sum (by omega) (by rw[List.getElem?_map,hj];rfl)
 have e:=(List.take_append_drop i ks).symm;unfold Dh
 conv=>lhs;rw[e]
 rw[List.filter_append,List.filter_append,List.filter_eq_self.2 lo,List.filter_eq_nil_iff.2 (fun k hk=>by rw[hi k hk];simp),List.filter_eq_nil_iff.2 (fun k hk=>by rw[lo k hk];simp),List.filter_eq_self.2 (fun k hk=>by rw[hi k hk];rfl)];simp
theorem PB {w:World} {base g cap n:Nat} {ps:List Pd} (h:w.ownsRow base 134 2 (.slice (some ⟨g,0,none⟩) n cap) n (Ab pC ps)) {i:Nat} {x:Pd} (hx:ps[i]?=some x) (s:ByteArray):(w.setCell (XL g (i *2+1)) (.string s)).ownsRow base 134 2 (.slice (some ⟨g,0,none⟩) n cap) n (Ab pC (ps.set i ⟨x.name,s⟩)):=by
 have hi:=(XC hx).1;have h1:=(h.stored (i *2+1) (.string s)).1;have h0:(Ab pC ps)[i *2]?=some (.string x.name):=by
  have:=Bl BB hx (show 0<2 by decide);simpa [pC] using this
 have e1:=Jm hi (⟨x.name,s⟩:Pd);have e0:(Ab pC ps).set (i *2) (.string x.name)=Ab pC ps:=by
  obtain⟨hl,e⟩:=XC h0;rw[←e];exact List.set_getElem_self hl
 rw[e0] at e1;rw[e1] at h1;exact h1
theorem UL (base d m:Nat) (O P L:Value) (wd now given births:Int) (ks:List Kd) (ps:List Pd) (ls:List Ld) (n s:ByteArray) (w:World) (h:DU w base d m O P L wd now given births ks ps ls) (zS:∀k∈ks,(k.sum.size:Int)=wd) (zG:Au ks s) (hl:ps.length<=200) (zB:ps.Pairwise (fun a b=>less a.name b.name=true)) (zN:∃x∈ps,x.name=n):
 Calls prog 170 #[.pointer (some ⟨d,0,none⟩),.string n,.string s] w fun e w'=>e=.returned (.tuple #[])/\∃P',DU w' base d m O P' L wd now given births ks (Bi ps n s) ls/\Tn (d::P.ownBlock.toList) w w':=by
 have zP:0<ps.length:=by obtain⟨x,hx,_⟩:=zN;exact List.length_pos_of_mem hx
 obtain⟨g,cap,zT⟩:=Ip h.dr.pin zP;subst zT;have HN:Hid _:=DQ base d m O (.slice (some ⟨g,0,none⟩) ps.length cap) L wd now given births ks ps ls s w h.dr zS zG;have HD:Hid (DU w base d m O (.slice (some ⟨g,0,none⟩) ps.length cap) L wd now given births ks ps ls):=h;have zJ:Hid (ps.Pairwise (fun a b=>less a.name b.name=true)):=zB;have zR:Hid (∃x∈ps,x.name=n):=zN;clear h zB zN zS zG
 go_enter func170,ntmps170;go_wp2_with fail;refine Calls.mono HN.o ?_;rintro e w1 ⟨rfl,zI⟩;have zM:=HD.o.below zI;have HS:Hid _:=Iq base d m O L g cap wd now given births ks ps ls n w1 zM hl zJ.o;clear HN;go_wp2_with fail;refine Calls.mono HS.o ?_;rintro e w2 ⟨i,rfl,zO,zK⟩;obtain⟨x,zE,zH⟩:=zO.at zR.o zJ.o;have zF:decide (∃x,ps[i]?=some x/\x.name=n)=true:=by simpa using ⟨x,zE,zH⟩
 have zX:i<ps.length:=(XC zE).1;have HE:Hid (Bi ps n s=ps.set i ⟨n,s⟩):=SX zO zE zH zJ.o;have zA:=zM.below zK;obtain⟨c6,_⟩:=zA.dr.box 6 _ rfl;have zZ:w2.cell? (XL g (i *2+1))=some (.string x.sum):=by
  have:=(zA.dr.pin.cellAt (i *2+1) (by omega)).trans (Bl BB zE (show 1<2 by decide));simpa [pC] using this
 have zY:w2.frozen? ⟨g,i *2+1,none⟩=false:=zA.dr.pin.frozenAt _;have zU:g≠d:=((CR zA.dr.ap).2.2.1 g rfl).1;have zC:=PB zA.dr.pin zE s;rw[zH] at zC;have hK:∃P',DU (w2.setCell (XL g (i *2+1)) (.string s)) base d m O P' L wd now given births ks (Bi ps n s) ls/\Tn (d::(Value.slice (some ⟨g,0,none⟩) ps.length cap).ownBlock.toList) w (w2.setCell (XL g (i *2+1)) (.string s)):=by
  have t1:Tn (d::(Value.slice (some ⟨g,0,none⟩) ps.length cap).ownBlock.toList) w2 (w2.setCell (XL g (i *2+1)) (.string s)):=(DR w2 g _ _).mono (by intro b hb;simp[Value.ownBlock] at hb ⊢;exact .inr hb)
  have zV:Aa (w2.setCell (XL g (i *2+1)) (.string s)) d [XJ wd,.map (some m),XJ now,XJ given,XJ births,O,.slice (some ⟨g,0,none⟩) ps.length cap,L]:=Aa.same zA.dr.box (Below.heap_setCell _ _ _ _ (fun e=>zU e.symm));refine⟨.slice (some ⟨g,0,none⟩) ps.length cap,zA.newP t1 zV ?_ (.inl rfl),(Tn.of (zI.trans (zK.mono zI.size))).trans t1⟩;rw[HE.o,List.length_set];exact zC
 have HK:Hid _:=hK;have zW:(i:Int)<ps.length:=by omega
 rw[zF];clear zF hK zC zE zH zO zM zA zI zK HD HS zR zJ;go_wp2;refine bodyPost_ret (results_none rfl _ _ _) rfl ?_;exact⟨rfl,HK.o⟩
theorem NK (base d m:Nat) (O P L:Value) (wd now given births:Int) (ks:List Kd) (ps:List Pd) (ls:List Ld) (n s:ByteArray) (w:World) (h:DU w base d m O P L wd now given births ks ps ls) (zB:∀k∈ks,(k.sum.size:Int)=wd) (zA:¬Au ks s):
 Calls prog 170 #[.pointer (some ⟨d,0,none⟩),.string n,.string s] w fun e w'=>e=.panicked [{v:=BS 2 ⟨#[]⟩ ⟨#[]⟩,recovered:=false}]/\Xz w w':=by
 have HN:Hid _:=IJ base d m O P L wd now given births ks ps ls s w h.dr zB zA;clear h zB zA;go_enter func170,ntmps170;go_wp2_with fail;refine Calls.mono HN.o ?_;rintro e w1 ⟨rfl,zC⟩;go_wp2;exact⟨rfl,rfl,zC⟩
theorem SZ (base d m:Nat) (O P L:Value) (wd now given births:Int) (ks:List Kd) (ps:List Pd) (ls:List Ld) (n s:ByteArray) (w:World) (h:DU w base d m O P L wd now given births ks ps ls) (zN:∀k∈ks,(k.sum.size:Int)=wd) (zC:Au ks s) (hl:ps.length=100) (zA:ps.Pairwise (fun a b=>less a.name b.name=true)) (zJ:¬∃x∈ps,x.name=n):
 Calls prog 170 #[.pointer (some ⟨d,0,none⟩),.string n,.string s] w fun e w'=>e=.panicked [{v:=BS 4 ⟨#[]⟩ ⟨#[]⟩,recovered:=false}]/\Xz w w':=by
 obtain⟨pa,zK,zO⟩:=Ay h.dr.pin;subst zO;have HN:Hid _:=DQ base d m O (.slice pa ps.length zK) L wd now given births ks ps ls s w h.dr zN zC;have HD:Hid _:=h;have zI:Hid _:=zA;have zM:Hid _:=zJ;have zR:((ps.length:Int)==100)=true:=by simp;omega
 have zP:Hid _:=hl;clear h zA zJ zN zC hl;go_enter func170,ntmps170;go_wp2_with fail;refine Calls.mono HN.o ?_;rintro e w1 ⟨rfl,zE⟩;have zG:=HD.o.below zE;have HS:Hid _:=Ir base d m O (.slice pa ps.length zK) L wd now given births ks ps ls n w1 zG (by have:=zP.o;omega) zI.o;clear HN;go_wp2_with fail;refine Calls.mono HS.o ?_;rintro e w2 ⟨i,rfl,_,zF⟩
 have zB:decide (∃x,ps[i]?=some x/\x.name=n)=false:=by
  rw[decide_eq_false_iff_not];rintro⟨x,hx,hn⟩;exact zM.o ⟨x,XG hx,hn⟩
 have zH:=zG.below zF;obtain⟨c6,_⟩:=zH.dr.box 6 _ rfl;have HB:Hid _:=zE.trans (zF.mono zE.size);rw[zB];clear zB zG zH zE zF HD HS zM zI;go_wp2;exact⟨rfl,rfl,HB.o⟩
section
open Go.ChangeShapes Go.WideShapes Go.ChangeAt Go.RowKit Go.Lib
theorem Fg:∃i:TypeInfo,prog.info? 134=some i/\i.zero=some (.agg #[XM,XM])/\i.size=2/\i.bytes=32:=by
 obtain⟨i0,hi,h0,h1,h2⟩:=info_parts FW;exact⟨i0,hi,h0,h1,h2⟩
theorem GM {w:World} {vb:Nat} {x:Pd} (hv:w.heap[vb]?=some (.cells #[.string x.name,.string x.sum] 134 (0,0))):∀j u,(Ab pC [x])[j]?=some u->w.cell? (XL vb j)=some u:=by
 intro j u hu;rw[Ab,List.flatMap_cons,List.flatMap_nil,List.append_nil] at hu;simp only[World.cell?,hv];rw[←hu];simp[pC]
theorem LQ (P:Value) (ss:List Pd) (x:Pd) (vb:Nat) (w:World) (base:Nat) (ho:w.ownsRow base 134 2 P ss.length (Ab pC ss)) (hl:ss.length<=600) (zB:base<=w.heap.size) (hv:w.heap[vb]?=some (.cells #[.string x.name,.string x.sum] 134 (0,0))):
 Calls prog 202 #[P,XJ ss.length,.slice (some ⟨vb,0,none⟩) 1 1] w fun e w'=>∃P',e=.returned P'/\w'.ownsRow base 134 2 P' (ss.length+1) (Ab pC (ss++[x]))/\w.grownBy w' P.ownBlock/\(P'.ownBlock=P.ownBlock∨P'.ownBlock=some w.heap.size):=by
 obtain⟨i0,zA,zE,zC,zF⟩:=Fg;obtain⟨v',w',hr,h2,h3,_,h5⟩:=run_append_own_at (P:=prog) w base 25 25 134 i0 _ 2 32 underlying25 zA zE zC zF rfl (by decide) P ss.length (Ab pC ss) ho ⟨vb,0,none⟩ 1 1 (Ab pC [x]) (by rw[Bo BB];rfl) (fun j u hu=>by rw[Go.WideShapes.add_plain,Nat.zero_add];exact GM hv j u hu) (Ih _) (by unfold maxLen;omega) (by omega) zB;rw[←Bf] at h2
 have HO:Hid _:=And.intro h2 (And.intro h3 h5);clear h2 h3 h5;rcases ho.2 with⟨e,zG⟩|⟨g,cap,zH,e,hb,hg,h1,h2,h3,h4⟩
 ·subst e
  rw[zG] at HO ⊢;clear ho hv zA zE zC zF;go_enter func202,ntmps202;go_wp2_with (at_builtin;refine Lib.wpList_append_run _ rfl _ _ _ _ rfl _ _ rfl rfl _ _ hr ?_);go_ret;exact⟨v',rfl,HO.o⟩
 ·subst e
  clear ho hv zA zE zC zF hg h3 h4;unfold maxLen at h2;by_cases hc:cap=ss.length
  ·subst hc
   go_enter func202,ntmps202;go_wp2_with (at_builtin;refine Lib.wpList_append_run _ rfl _ _ _ _ rfl _ _ rfl rfl _ _ hr ?_);go_ret;exact⟨v',rfl,HO.o⟩
  ·go_enter func202,ntmps202
   go_wp2_with (at_builtin;refine Lib.wpList_append_run _ rfl _ _ _ _ rfl _ _ rfl rfl _ _ hr ?_);go_ret;exact⟨v',rfl,HO.o⟩
theorem JY (g cap i:Nat) (ss:List Pd) (x:Pd) (vb:Nat) (w:World) (base:Nat) (ho:w.ownsRow base 134 2 (.slice (some ⟨g,0,none⟩) ss.length cap) ss.length (Ab pC ss)) (hl:ss.length<=600) (hi:i<ss.length) (zH:ss.length+1<=cap) (zO:vb≠g) (hv:w.heap[vb]?=some (.cells #[.string x.name,.string x.sum] 134 (0,0))):
 Calls prog 202 #[.slice (some ⟨g,0,none⟩) ss.length cap,XJ i,.slice (some ⟨vb,0,none⟩) 1 1] w fun e w'=>e=.returned (.slice (some ⟨g,0,none⟩) (ss.length+1) cap)/\w'.ownsRow base 134 2 (.slice (some ⟨g,0,none⟩) (ss.length+1) cap) (ss.length+1) (Ab pC (ss.take i++[x]++ss.drop i))/\w.grownBy w' (some g):=by
 obtain⟨i0,zB,zV,zI,zW⟩:=Fg;obtain⟨zC,hg,yH,zT,zN,zU⟩:∃zC,w.heap[g]?=some (.cells zC 134 (0,0))/\ss.length<=cap/\cap<=maxLen/\zC.size=cap *2/\zC.toList.take (ss.length *2)=Ab pC ss:=by
  rcases ho.2 with⟨e,_⟩|⟨g',zR,zC,e,hb,hg,h1,h2,h3,h4⟩
  ·cases e
  ·cases e;exact⟨zC,hg,h1,h2,h3,h4⟩
 have zM:=Bo BB ss;have zK:(Ab pC [x]).length=2:=by rw[Bo BB];rfl
 have zP:((Ab pC ss).drop (i *2)).length=(ss.length -i) *2:=by rw[List.length_drop,zM];omega
 have zA:∀j,j<cap *2->(w.cell? (XL g j)).isSome=true:=fun j hj=>by
  simp only[World.cell?,hg];rw[Array.getElem?_eq_getElem (by omega)];rfl
 have zS:∀lb cb,(callFunc 233 #[.slice (some ⟨vb,0,none⟩) 1 1,.slice (some ⟨g,(i+1) *2,none⟩) lb cb]).run prog w=.ok (.value (.bool false)) w:=fun lb cb=>by
  rw[run_callFunc_extern func233 (by kernel_rfl) (by kernel_rfl) (by kernel_rfl) (e:=Extern.SlicesOverlaps.overlaps #[25,25] #[4]) (by kernel_rfl),
   Lib.run_overlaps_apart w 25 4 134 underlying25 2 (fun w=>by simp[sizeOf,typeInfo,zB,zI]) ⟨vb,0,none⟩ ⟨g,(i+1) *2,none⟩ 1 1 lb cb zO 134 134 (#[.string x.name,.string x.sum]:Array Value).size zC.size (by simp only[World.shape?,hv]) (by simp only[World.shape?,hg]) (by rw[zN];omega) (by simp only[World.frozen?,hv];rfl) (by simp[World.frozen?,hv])]
  rfl
 have zG:∀ty dc sc,(Builtin.copy_ #[25,25] ty #[.slice (some ⟨g,(i+1) *2,none⟩) (ss.length+1 -(i+1)) dc,.slice (some ⟨g,i *2,none⟩) (ss.length+1 -i) sc]).run prog w.drew=.ok (goInt (Nat.min (ss.length+1 -i) (ss.length+1 -(i+1)))) (w.drew.setCells g ((i+1) *2) ((Ab pC ss).drop (i *2))):=fun ty dc sc=>
  Cr w.drew 25 25 ty 134 i0 2 g ((i+1) *2) (ss.length+1 -(i+1)) dc ⟨g,i *2,none⟩ (ss.length+1 -i) sc ((Ab pC ss).drop (i *2)) underlying25 zB zI (by rw[zP];congr 1;show _=min _ _;omega)
   (fun j v hj=>by
     rw[Go.WideShapes.add_plain];rw[List.getElem?_drop] at hj;have:=(XC hj).1;exact(ho.cellAt _ (by omega)).trans hj)
   (fun j hj=>zA _ (by omega)) (fun j _=>ho.frozenAt _) (fun v hv=>Ih _ v (List.mem_of_mem_drop hv))
 obtain⟨W1,zE⟩:∃W1,W1=w.drew.setCells g ((i+1) *2) ((Ab pC ss).drop (i *2)):=⟨_,rfl⟩;have zJ:∀ty dc,(Builtin.copy_ #[25,25] ty #[.slice (some ⟨g,i *2,none⟩) (ss.length+1 -i) dc,.slice (some ⟨vb,0,none⟩) 1 1]).run prog W1=.ok (goInt (Nat.min 1 (ss.length+1 -i))) (W1.setCells g (i *2) (Ab pC [x])):=fun ty dc=>
  Cr W1 25 25 ty 134 i0 2 g (i *2) (ss.length+1 -i) dc ⟨vb,0,none⟩ 1 1 (Ab pC [x]) underlying25 zB zI (by rw[zK,show Nat.min 1 (ss.length+1 -i)=1 from Nat.min_eq_left (by omega),Nat.one_mul])
   (fun j v hj=>by
     rw[Go.WideShapes.add_plain,Nat.zero_add,zE,World.cell?_setCells_out g _ _ _ _ (fun h _=>absurd h zO)];exact GM hv j v hj)
   (fun j hj=>by rw[zE];exact Gy g ((Ab pC ss).drop (i *2)) ((i+1) *2) w.drew (fun t ht=>zA _ (by omega)) (i *2+j) (zA _ (by omega))) (fun j _=>by rw[zE,World.frozen?_setCells];exact ho.frozenAt _) (Ih _)
 have zF:(W1.setCells g (i *2) (Ab pC [x])).ownsRow base 134 2 (.slice (some ⟨g,0,none⟩) (ss.length+1) cap) (ss.length+1) (Ab pC (ss.take i++[x]++ss.drop i))/\w.grownBy (W1.setCells g (i *2) (Ab pC [x])) (some g):=by
  refine⟨?_,?_⟩
  ·rw[Bf,Bf,←EZ BB ss i (by omega),←Ex BB ss i (by omega),zE]
   exact Ln (w:=w.drew) (Ad ho ((Below.refl _ _).drew)) (by omega) zK zH
  ·rw[zE]
   exact Ap (CQ (BM g _ _ _)) (BM g _ _ _)
 have HF:Hid _:=zF;rw[←zE] at zG;unfold maxLen at zT;have zI:¬((i:Int)=(ss.length:Int)):=by omega
 have yF:(0:Int)<=(i:Int)+1:=by omega
 have yC:(i:Int)+1<=(ss.length:Int)+1:=by omega
 have zX:((i:Int)+1).toNat=i+1:=by omega
 have yJ:((ss.length:Int)+1).toNat=ss.length+1:=by omega
 have yI:(0:Int)<=(ss.length:Int)+1:=by omega
 have yG:(ss.length:Int)+1<=(cap:Int):=by omega
 have zY:¬(cap=i+1):=by omega
 have yA:¬(cap=i):=by omega
 have yB:i<=ss.length+1:=by omega
 have zZ:(i:Int)<=(ss.length:Int)+1:=by omega
 have yE:(i:Int)<=(ss.length:Int):=by omega
 have mixed:prog.follows .mixedOrders=true:=by kernel_rfl
 have yK:IntKind.i64.wrap ((i:Int)+1)=(i:Int)+1:=by rw[IntKind.wrap_i64];omega
 have yD:IntKind.i64.wrap ((ss.length:Int)+1)=(ss.length:Int)+1:=by rw[IntKind.wrap_i64];omega
 clear ho zA zF hv hg zU zN zB zV zW zM zK zP zE;go_enter func202,ntmps202;go_wp2_with (simp only[zS])
 go_region_law_o (refine DL rfl _ _ 25 25 rfl (.slice (some ⟨g,(i+1) *2,none⟩) (ss.length+1 -(i+1)) (cap -(i+1))) (.slice (some ⟨g,i *2,none⟩) (ss.length+1 -i) (cap -i)) (by simp[Act.eval,Act.put]) (by simp[Act.eval,Act.put]) (zG 3 (cap -(i+1)) (cap -i)) ?_)
 go_wp2_with (at_builtin;refine CZ _ rfl _ _ 25 25 rfl _ _ rfl rfl (zJ _ _) ?_);go_ret;exact⟨rfl,HF.o⟩
theorem KE (g cap i:Nat) (ss:List Pd) (x:Pd) (vb:Nat) (w:World) (base:Nat) (ho:w.ownsRow base 134 2 (.slice (some ⟨g,0,none⟩) ss.length cap) ss.length (Ab pC ss)) (hl:ss.length<=600) (hi:i<ss.length) (zH:cap<ss.length+1) (zJ:base<=w.heap.size) (hv:w.heap[vb]?=some (.cells #[.string x.name,.string x.sum] 134 (0,0))):
 Calls prog 202 #[.slice (some ⟨g,0,none⟩) ss.length cap,XJ i,.slice (some ⟨vb,0,none⟩) 1 1] w fun e w'=>∃G,e=.returned (.slice (some ⟨w.heap.size,0,none⟩) (ss.length+1) G)/\w'.ownsRow base 134 2 (.slice (some ⟨w.heap.size,0,none⟩) (ss.length+1) G) (ss.length+1) (Ab pC (ss.take i++[x]++ss.drop i))/\w.grownBy w' none:=by
 obtain⟨i0,zB,zZ,zK,zN⟩:=Fg;have zV:g<w.heap.size:=(Ac ho rfl).2;have yA:=(Array.getElem?_eq_some_iff.1 hv).1;have yR:ss.length<=cap:=by
  rcases ho.2 with⟨e,_⟩|⟨g',yE,yM,e,hb,hg,h1,h2,h3,h4⟩
  ·cases e
  ·cases e;exact h1
 have zM:=Bo BB ss;have zO:(Ab pC [x]).length=2:=by rw[Bo BB];rfl
 have yD:((Ab pC ss).drop (i *2)).length=(ss.length -i) *2:=by rw[List.length_drop,zM];omega
 have zR:((Ab pC ss).take (i *2)).length=i *2:=by rw[List.length_take,zM];omega
 have zG:(Builtin.firstCells i0.size i (.slice (some ⟨g,0,none⟩) i cap)).run prog w.drew=.ok ((Ab pC ss).take (i *2)).toArray w.drew:=by
  rw[zK];exact run_firstCells_some w.drew 2 i ⟨g,0,none⟩ i cap ((Ab pC ss).take (i *2)) zR (fun j v hj=>by
   rw[Go.WideShapes.add_plain,Nat.zero_add];rw[List.getElem?_take] at hj;split at hj
   ·exact(ho.cellAt _ (by omega)).trans hj
   ·cases hj)
 obtain⟨G,hG⟩:∃G,G=grownCap w (ss.length+1) cap 134:=⟨_,rfl⟩;obtain⟨zc,yF,zT⟩:∃zc:Array Value,zc=Value.cells (.agg #[XM,XM])/\zc.size=2:=⟨_,rfl,by kernel_rfl⟩;obtain⟨zs,zP⟩:∃zs:List Value,zs=(Builtin.zeroCells zc (ss.length+1 -i)).toList++(Builtin.zeroCells zc (G -(ss.length+1))).toList:=⟨_,rfl⟩;have yG:ss.length+1<=G:=by rw[hG];exact grownCap_ge w _ _ _
 have zI:G<=maxLen:=by
  rw[hG];exact grownCap_le_maxLen w (ss.length+1) cap 134 (by unfold maxLen;omega)
 have zY:i *2+zs.length=G *2:=by
  rw[zP];simp[Builtin.zeroCells,zT];omega
 have zX:∀ty,(Builtin.append_ #[25,3] ty #[.slice (some ⟨g,0,none⟩) i cap,XJ ((ss.length:Int)+1 -(i:Int))]).run prog w=
  .ok (.slice (some ⟨w.heap.size,0,none⟩) (ss.length+1) G) (w.drew.alloc (.cells ((Ab pC ss).take (i *2)++zs).toArray 134)):=fun ty=>by
  have yC:i+(ss.length+1 -i)=ss.length+1:=by omega
  have h:=Lib.run_append_grow_zeros (P:=prog) w 25 3 ty 134 i0 _ .i64 .i64 underlying25 underlying3 zB zZ (some ⟨g,0,none⟩) i cap ((Ab pC ss).take (i *2)) zG (ss.length+1 -i) (by omega) (by rw[zK];omega) (by omega) (by omega) (by rw[zN];omega) (by rw[zN,yC];exact growslice_fits zH (by omega));rw[yC,←hG,←yF] at h;rw[show(ss.length:Int)+1 -(i:Int)=((ss.length+1 -i:Nat):Int) by omega,h,zP]
  have e:((Ab pC ss).take (i *2)).toArray++Builtin.zeroCells zc (ss.length+1 -i)++Builtin.zeroCells zc (G -(ss.length+1))=((Ab pC ss).take (i *2)++((Builtin.zeroCells zc (ss.length+1 -i)).toList++(Builtin.zeroCells zc (G -(ss.length+1))).toList)).toArray:=by
   apply Array.toList_inj.1;simp
  rw[e]
 obtain⟨W1,zE⟩:∃W1,W1=w.drew.alloc (.cells ((Ab pC ss).take (i *2)++zs).toArray 134):=⟨_,rfl⟩;have zA:W1.heap[w.heap.size]?=some (.cells ((Ab pC ss).take (i *2)++zs).toArray 134 (0,0)):=by rw[zE];exact heap_alloc_new w.drew _
 have hN:∀j,j<G *2->(W1.cell? (XL (w.heap.size) j)).isSome=true:=fun j hj=>by
  simp only[World.cell?,zA];rw[Array.getElem?_eq_getElem (by simp[zR];omega)];rfl
 have zU:∀j,W1.frozen? ⟨w.heap.size,j,none⟩=false:=fun j=>by simp[World.frozen?,zA]
 have hO:∀b,b<w.heap.size->W1.heap[b]?=w.heap[b]?:=fun b hb=>by rw[zE];exact FO w.drew _ hb
 have zW:∀ty dc,(Builtin.copy_ #[25,25] ty #[.slice (some ⟨w.heap.size,i *2,none⟩) (ss.length+1 -i) dc,.slice (some ⟨vb,0,none⟩) 1 1]).run prog W1=.ok (goInt (Nat.min 1 (ss.length+1 -i))) (W1.setCells w.heap.size (i *2) (Ab pC [x])):=fun ty dc=>
  Cr W1 25 25 ty 134 i0 2 w.heap.size (i *2) (ss.length+1 -i) dc ⟨vb,0,none⟩ 1 1 (Ab pC [x]) underlying25 zB zK (by rw[zO,show Nat.min 1 (ss.length+1 -i)=1 from Nat.min_eq_left (by omega),Nat.one_mul])
   (fun j v hj=>by
     rw[Go.WideShapes.add_plain,Nat.zero_add,World.cell?_of_block (hO vb yA)];exact GM hv j v hj)
   (fun j hj=>hN _ (by omega)) (fun j _=>zU _) (Ih _)
 obtain⟨W2,zC⟩:∃W2,W2=(W1.setCells w.heap.size (i *2) (Ab pC [x])).drew:=⟨_,rfl⟩;have zS:∀ty dc sc,(Builtin.copy_ #[25,25] ty #[.slice (some ⟨w.heap.size,(i+1) *2,none⟩) (ss.length+1 -(i+1)) dc,.slice (some ⟨g,i *2,none⟩) (ss.length -i) sc]).run prog W2=.ok (goInt (Nat.min (ss.length -i) (ss.length+1 -(i+1)))) (W2.setCells w.heap.size ((i+1) *2) ((Ab pC ss).drop (i *2))):=fun ty dc sc=>
  Cr W2 25 25 ty 134 i0 2 w.heap.size ((i+1) *2) (ss.length+1 -(i+1)) dc ⟨g,i *2,none⟩ (ss.length -i) sc ((Ab pC ss).drop (i *2)) underlying25 zB zK (by rw[yD];congr 1;show _=min _ _;omega)
   (fun j v hj=>by
     rw[List.getElem?_drop] at hj;have:=(XC hj).1;rw[Go.WideShapes.add_plain,zC,FQ,World.cell?_setCells_out _ _ _ _ _ (fun h _=>absurd h (Nat.ne_of_lt zV)),World.cell?_of_block (hO g zV)];exact(ho.cellAt _ (by omega)).trans hj)
   (fun j hj=>by rw[zC,FQ];exact Gy w.heap.size (Ab pC [x]) (i *2) W1 (fun t ht=>hN _ (by omega)) ((i+1) *2+j) (hN _ (by omega))) (fun j _=>by rw[zC,Iu,World.frozen?_setCells];exact zU _) (fun v hv=>Ih _ v (List.mem_of_mem_drop hv))
 have zF:(W2.setCells w.heap.size ((i+1) *2) ((Ab pC ss).drop (i *2))).ownsRow base 134 2 (.slice (some ⟨w.heap.size,0,none⟩) (ss.length+1) G) (ss.length+1) (Ab pC (ss.take i++[x]++ss.drop i))/\w.grownBy (W2.setCells w.heap.size ((i+1) *2) ((Ab pC ss).drop (i *2))) none:=by
  refine⟨?_,?_⟩
  ·rw[Bf,Bf,←EZ BB ss i (by omega),←Ex BB ss i (by omega),zC,←It]
   exact Ad (MO (w:=W1) zM (by omega) zO zJ zA zY yG zI) ((Below.refl _ _).drew)
  ·have s1:W1.heap.size=w.heap.size+1:=by rw[zE];simp
   have e1:w.grownBy W1 none:=by rw[zE];exact⟨rfl,rfl,rfl,by simp,fun b hb _=>FO w.drew _ hb⟩
   have e2:W1.grownBy (W2.setCells w.heap.size ((i+1) *2) ((Ab pC ss).drop (i *2))) (some w.heap.size):=by
    rw[zC];exact Ap (Ap (BM w.heap.size (Ab pC [x]) (i *2) W1) (IW _ _)) (BM w.heap.size ((Ab pC ss).drop (i *2)) ((i+1) *2) _)
   exact⟨e2.os.trans e1.os,e2.tape.trans e1.tape,e2.output.trans e1.output,XI e1.size e2.size,fun b hb _=>(e2.block b (by omega) (by simp;omega)).trans (e1.block b hb (by simp))⟩
 have HF:Hid _:=zF;have yB:G<=9223372036854775807:=by unfold maxLen at zI;omega
 have yI:¬((i:Int)=(ss.length:Int)):=by omega
 have yJ:(cap:Int)<(ss.length:Int)+1:=by omega
 have yH:(0:Int)<=(i:Int)+1:=by omega
 have yT:(i:Int)+1<=(ss.length:Int)+1:=by omega
 have yL:((i:Int)+1).toNat=i+1:=by omega
 have yP:¬(cap=i):=by omega
 have yO:¬(G=i):=by omega
 have yN:¬(G=i+1):=by omega
 have yU:i<=ss.length+1:=by omega
 have yQ:(i:Int)<=(ss.length:Int)+1:=by omega
 have yW:(i:Int)<=(ss.length:Int):=by omega
 have mixed:prog.follows .mixedOrders=true:=by kernel_rfl
 have yK:i<=cap:=by omega
 have yX:IntKind.i64.wrap ((i:Int)+1)=(i:Int)+1:=by rw[IntKind.wrap_i64];omega
 have yV:IntKind.i64.wrap ((ss.length:Int)+1)=(ss.length:Int)+1:=by rw[IntKind.wrap_i64];omega
 have yS:IntKind.i64.wrap ((ss.length:Int)+1 -(i:Int))=(ss.length:Int)+1 -(i:Int):=by rw[IntKind.wrap_i64];omega
 rw[←zE] at zX;clear ho zF hv zB zZ zN zM zO yD zR zG hG zP zY zA hN zU hO zE zV yA;go_enter func202,ntmps202;go_wp2_with (first
  |(at_builtin;refine Lib.wpList_append_run _ rfl _ _ _ _ rfl _ _ rfl rfl _ _ (zX _) ?_)
  |(at_builtin;refine CZ _ rfl _ _ 25 25 rfl _ _ rfl rfl (zW _ _) ?_))
 go_region_law_o (refine DL rfl _ _ 25 25 rfl (.slice (some ⟨w.heap.size,(i+1) *2,none⟩) (ss.length+1 -(i+1)) (G -(i+1))) (.slice (some ⟨g,i *2,none⟩) (ss.length -i) (cap -i)) (by simp[Act.eval,Act.put]) (by simp[Act.eval,Act.put]) (by rw[←zC];exact zS 3 (G -(i+1)) (cap -i)) ?_)
 go_wp2;go_ret;rw[←zC];exact⟨G,rfl,HF.o⟩
theorem LR (P:Value) (i:Nat) (ss:List Pd) (x:Pd) (vb:Nat) (w:World) (base:Nat) (ho:w.ownsRow base 134 2 P ss.length (Ab pC ss)) (hl:ss.length<=600) (hi:i<=ss.length) (zA:base<=w.heap.size) (zB:P.ownBlock≠some vb) (hv:w.heap[vb]?=some (.cells #[.string x.name,.string x.sum] 134 (0,0))):
 Calls prog 202 #[P,XJ i,.slice (some ⟨vb,0,none⟩) 1 1] w fun e w'=>∃P',e=.returned P'/\w'.ownsRow base 134 2 P' (ss.length+1) (Ab pC (ss.take i++[x]++ss.drop i))/\w.grownBy w' P.ownBlock/\(P'.ownBlock=P.ownBlock∨P'.ownBlock=some w.heap.size):=by
 rcases Nat.lt_or_ge i ss.length with h|h
 ·rcases ho.2 with⟨e,hn⟩|⟨g,cap,zC,e,hb,hg,h1,h2,h3,h4⟩
  ·omega
  ·subst e
   rcases Nat.lt_or_ge cap (ss.length+1) with hc|hc
   ·refine Calls.mono (KE g cap i ss x vb w base ho hl h hc zA hv) ?_
    rintro e w' ⟨G,rfl,q1,q2⟩;exact⟨_,rfl,q1,⟨q2.os,q2.tape,q2.output,q2.size,fun b hb _=>q2.block b hb (by simp)⟩,.inr rfl⟩
   ·refine Calls.mono (JY g cap i ss x vb w base ho hl h hc (fun e=>zB (by rw[e];rfl)) hv) ?_
    rintro e w' ⟨rfl,q1,q2⟩;exact⟨_,rfl,q1,q2,.inl rfl⟩
 ·obtain rfl:i=ss.length:=by omega
  rw[List.take_length,List.drop_length,List.append_nil];exact LQ P ss x vb w base ho hl zA hv
end
theorem UM (base d m:Nat) (O P L:Value) (wd now given births:Int) (ks:List Kd) (ps:List Pd) (ls:List Ld) (n s:ByteArray) (w:World) (h:DU w base d m O P L wd now given births ks ps ls) (yA:∀k∈ks,(k.sum.size:Int)=wd) (zG:Au ks s) (hl:ps.length<100) (zF:ps.Pairwise (fun a b=>less a.name b.name=true)) (yB:¬∃x∈ps,x.name=n):
 Calls prog 170 #[.pointer (some ⟨d,0,none⟩),.string n,.string s] w fun e w'=>e=.returned (.tuple #[])/\∃P',DU w' base d m O P' L wd now given births ks (Bi ps n s) ls/\Tn (d::P.ownBlock.toList) w w':=by
 obtain⟨pa,zC,yF⟩:=Ay h.dr.pin;subst yF;have HN:Hid _:=DQ base d m O (.slice pa ps.length zC) L wd now given births ks ps ls s w h.dr yA zG;have HD:Hid (DU w base d m O (.slice pa ps.length zC) L wd now given births ks ps ls):=h;have zZ:Hid (ps.Pairwise (fun a b=>less a.name b.name=true)):=zF;have zU:Hid (¬∃x∈ps,x.name=n):=yB;have yH:((ps.length:Int)==100)=false:=by simp;omega
 clear h zF yB yA zG;go_enter func170,ntmps170;go_wp2_with fail;refine Calls.mono HN.o ?_;rintro e w1 ⟨rfl,zN⟩;have zW:=HD.o.below zN;have HS:Hid _:=Ir base d m O (.slice pa ps.length zC) L wd now given births ks ps ls n w1 zW (by omega) zZ.o;clear HN;go_wp2_with fail;refine Calls.mono HS.o ?_;rintro e w2 ⟨i,rfl,zY,zV⟩;have zH:decide (∃x,ps[i]?=some x/\x.name=n)=false:=by
  rw[decide_eq_false_iff_not];rintro⟨x,hx,hn⟩;exact zU.o ⟨x,XG hx,hn⟩
 have HE:Hid (Bi ps n s=ps.take i++[⟨n,s⟩]++ps.drop i):=NJ zY zU.o;have zK:=zW.below zV;have yG:Hid (DU w2 base d m O (.slice pa ps.length zC) L wd now given births ks ps ls):=zK;have HB:Hid (Xz w w2):=zN.trans (zV.mono zN.size);obtain⟨c6,_⟩:=zK.dr.box 6 _ rfl;obtain⟨A,hA⟩:∃A,A=w2.alloc (.cells #[.string n,.string s] 134):=⟨_,rfl⟩;have bA:=(Aq hA).1;have zJ:=zK.below bA
 have zM:Hid (DU A base d m O (.slice pa ps.length zC) L wd now given births ks ps ls):=zJ;have yC:Hid (Xz w2 A):=bA;have yE:=zY.le;have zE:=LR (.slice pa ps.length zC) i ps ⟨n,s⟩ w2.heap.size A base zJ.dr.pin (by omega) yE zJ.lo (fun e=>Nat.lt_irrefl _ (Ac zK.dr.pin e).2) (by rw[hA];exact heap_alloc_new w2 _);have HI:Hid _:=zE;have HA:Hid _:=hA;obtain⟨e6,_⟩:=zJ.dr.box 6 _ rfl;rw[zH]
 clear zH zW zK zN zV HD HS zU zZ zY zE zJ bA hA;go_wp2_with fail;rw[←HA.o];refine Calls.mono HI.o ?_;rintro e w3 ⟨P',rfl,zR,zT,zA⟩;obtain⟨zP,zO,yD⟩:=Ay zR;subst yD;have zX:∀b,(Value.slice pa ps.length zC).ownBlock=some b->b≠d:=fun b hb=>((CR zM.o.dr.ap).2.2.1 b hb).1;have zI:∀b,(Value.slice zP (ps.length+1) zO).ownBlock=some b->b≠d:=fun b hb=>by
  rcases zA with zA|zA
  ·exact zX b (zA▸hb)
  ·rw[zA] at hb
   have:=zM.o.dr.box.lt;cases hb;omega
 have zB:Aa w3 d [XJ wd,.map (some m),XJ now,XJ given,XJ births,O,.slice pa ps.length zC,L]:=Aa.same zM.o.dr.box (zT.block d zM.o.dr.box.lt (fun e=>zX d e.symm rfl));obtain⟨f6,k6⟩:=zB 6 _ rfl
 have hK:∃P'',DU (w3.setCell (XL d 6) (.slice zP (ps.length+1) zO)) base d m O P'' L wd now given births ks (Bi ps n s) ls/\Tn (d::(Value.slice pa ps.length zC).ownBlock.toList) w (w3.setCell (XL d 6) (.slice zP (ps.length+1) zO)):=by
  have t1:Tn (d::(Value.slice pa ps.length zC).ownBlock.toList) A (w3.setCell (XL d 6) (.slice zP (ps.length+1) zO)):=
   ((Cn zT).mono (fun b hb=>List.mem_cons_of_mem _ hb)).trans ((DR w3 d 6 _).mono (by simp))
  refine⟨_,zM.o.newP t1 (zB.set 6 _) ?_ ?_,((Tn.of HB.o).trans (Tn.of yC.o)).trans t1⟩
  ·have zS:(Bi ps n s).length=ps.length+1:=by rw[HE.o];simp;omega
   rw[zS,HE.o];exact Bh zR zI 6 _
  ·rcases zA with zA|zA
   ·exact .inl zA
   ·exact .inr ⟨_,zA,XB⟩
 have HK:Hid _:=hK;clear hK zR zT zB e6 zA zX zI;go_wp2
 go_end0
 exact⟨rfl,HK.o⟩
end Go.Proofs.YtpekbmegopfhfaaGreatDoor
