import Derived.Test.YtpekbmegopfhfaaGreatDoorW09
import Derived.Test.YtpekbmegopfhfaaGreatDoorW15
import Derived.Test.YtpekbmegopfhfaaGreatDoorW14
namespace Go.Proofs.YtpekbmegopfhfaaGreatDoor
open Go.ChangeShapes Go.WideShapes Go.ChangeAt Go.RowKit Go.Lib
theorem insertKey_info:∃i:TypeInfo,Tryz.prog.info? 139=some i/\i.zero=some (.agg zero8)/\i.size=8/\i.bytes=8:=by
 obtain ⟨i0,hi,h0,h1,h2⟩:=info_parts Tryz.infoKey
 exact ⟨i0,hi,h0,h1,h2⟩
theorem insertKey_v {w:World} {vb:Nat} {x:ByteArray} (hv:w.heap[vb]?=some (.cells (kCells x).toArray 139 (0,0))):∀j u,(rowC kCells [x])[j]?=some u->w.cell? ⟨vb,j,none⟩=some u:=by
 intro j u hu
 rw [rowC,List.flatMap_cons,List.flatMap_nil,List.append_nil] at hu
 simp only [World.cell?,hv]
 rw [←hu]
 simp
set_option maxRecDepth 20000 in
set_option maxHeartbeats 4000000 in
theorem insertKey_end (P:Value) (ss:List ByteArray) (x:ByteArray) (vb:Nat) (w:World) (base:Nat) (ho:w.ownsRow base 139 8 P ss.length (rowC kCells ss)) (hl:ss.length<=600) (hbase:base<=w.heap.size) (hv:w.heap[vb]?=some (.cells (kCells x).toArray 139 (0,0))):
 Calls Tryz.prog 229 #[P,.int .i64 ss.length,.slice (some ⟨vb,0,none⟩) 1 1] w fun e w'=>∃P',e=.returned P'/\w'.ownsRow base 139 8 P' (ss.length+1) (rowC kCells (ss++[x]))/\w.grownBy w' P.ownBlock/\(P'.ownBlock=P.ownBlock∨P'.ownBlock=some w.heap.size):=by
 obtain ⟨i0,hinf,hz0,hz1,hz2⟩:=insertKey_info
 obtain ⟨v',w',hr,h2,h3,_,h5⟩:=run_append_own_at (P:=Tryz.prog) w base 129 129 139 i0 _ 8 8 Tryz.underlying129 hinf hz0 hz1 hz2 rfl (by decide) P ss.length (rowC kCells ss) ho ⟨vb,0,none⟩ 1 1 (rowC kCells [x]) (by rw [row_len kC_len];rfl) (fun j u hu=>by rw [Go.WideShapes.add_plain,Nat.zero_add];exact insertKey_v hv j u hu) (cells8_one _) (by unfold maxLen;omega) (by omega) hbase
 rw [←row_append] at h2
 have HO:Hid _:=And.intro h2 (And.intro h3 h5)
 clear h2 h3 h5
 rcases ho.2 with ⟨e,hn0⟩|⟨g,cap,cur,e,hb,hg,h1,h2,h3,h4⟩
 ·subst e
  rw [hn0] at HO ⊢
  clear ho hv hinf hz0 hz1 hz2
  go_enter Tryz.func229,Tryz.ntmps229
  go_wp2_with (at_builtin;refine Lib.wpList_append_run _ rfl _ _ _ _ rfl _ _ rfl rfl _ _ hr ?_)
  go_ret
  exact ⟨v',rfl,HO.out⟩
 ·subst e
  clear ho hv hinf hz0 hz1 hz2 hg h3 h4
  unfold maxLen at h2
  by_cases hc:cap=ss.length
  ·subst hc
   go_enter Tryz.func229,Tryz.ntmps229
   go_wp2_with (at_builtin;refine Lib.wpList_append_run _ rfl _ _ _ _ rfl _ _ rfl rfl _ _ hr ?_)
   go_ret
   exact ⟨v',rfl,HO.out⟩
  ·go_enter Tryz.func229,Tryz.ntmps229
   go_wp2_with (at_builtin;refine Lib.wpList_append_run _ rfl _ _ _ _ rfl _ _ rfl rfl _ _ hr ?_)
   go_ret
   exact ⟨v',rfl,HO.out⟩
set_option maxRecDepth 20000 in
set_option maxHeartbeats 4000000 in
theorem insertKey_shift (g cap i:Nat) (ss:List ByteArray) (x:ByteArray) (vb:Nat) (w:World) (base:Nat) (ho:w.ownsRow base 139 8 (.slice (some ⟨g,0,none⟩) ss.length cap) ss.length (rowC kCells ss)) (hl:ss.length<=600) (hi:i<ss.length) (hroom:ss.length+1<=cap) (hvg:vb≠g) (hv:w.heap[vb]?=some (.cells (kCells x).toArray 139 (0,0))):
 Calls Tryz.prog 229 #[.slice (some ⟨g,0,none⟩) ss.length cap,.int .i64 i,.slice (some ⟨vb,0,none⟩) 1 1] w fun e w'=>e=.returned (.slice (some ⟨g,0,none⟩) (ss.length+1) cap)/\w'.ownsRow base 139 8 (.slice (some ⟨g,0,none⟩) (ss.length+1) cap) (ss.length+1) (rowC kCells (ss.take i++[x]++ss.drop i))/\w.grownBy w' (some g):=by
 obtain ⟨i0,hinf,hz0,hz1,hz2⟩:=insertKey_info
 obtain ⟨cur,hg,hc1,hc2,hc3,hc4⟩:∃cur,w.heap[g]?=some (.cells cur 139 (0,0))/\ss.length<=cap/\cap<=maxLen/\cur.size=cap *8/\cur.toList.take (ss.length *8)=rowC kCells ss:=by
  rcases ho.2 with ⟨e,_⟩|⟨g',cap',cur,e,hb,hg,h1,h2,h3,h4⟩
  ·cases e
  ·cases e;exact ⟨cur,hg,h1,h2,h3,h4⟩
 have hxs:(rowC kCells ss).length=ss.length *8:=row_len kC_len ss
 have hvl:(rowC kCells [x]).length=8:=by rw [row_len kC_len];rfl
 have hdl:((rowC kCells ss).drop (i *8)).length=(ss.length -i) *8:=by rw [List.length_drop,hxs];omega
 have hsome:∀j,j<cap *8->(w.cell? ⟨g,j,none⟩).isSome=true:=fun j hj=>by
  simp only [World.cell?,hg]
  rw [Array.getElem?_eq_getElem (by omega)]
  rfl
 have hov:∀lb cb,(callFunc 244 #[.slice (some ⟨vb,0,none⟩) 1 1,.slice (some ⟨g,(i+1) *8,none⟩) lb cb]).run Tryz.prog w=.ok (.value (.bool false)) w:=fun lb cb=>by
  rw [run_callFunc_extern Tryz.func244 (by kernel_rfl) (by kernel_rfl) (by kernel_rfl) (e:=Extern.SlicesOverlaps.overlaps #[129,129] #[4]) (by kernel_rfl),
   Lib.run_overlaps_apart w 129 4 139 Tryz.underlying129 8 (fun w=>by simp [sizeOf,typeInfo,hinf,hz1]) ⟨vb,0,none⟩ ⟨g,(i+1) *8,none⟩ 1 1 lb cb hvg 139 139 ((kCells x).toArray:Array Value).size cur.size (by simp only [World.shape?,hv]) (by simp only [World.shape?,hg]) (by rw [hc3];omega) (by simp only [World.frozen?,hv];rfl) (by simp [World.frozen?,hv])]
  rfl
 have hcp1:∀ty dc sc,(Builtin.copy_ #[129,129] ty #[.slice (some ⟨g,(i+1) *8,none⟩) (ss.length+1 -(i+1)) dc,.slice (some ⟨g,i *8,none⟩) (ss.length+1 -i) sc]).run Tryz.prog w.drew=.ok (goInt (Nat.min (ss.length+1 -i) (ss.length+1 -(i+1)))) (w.drew.setCells g ((i+1) *8) ((rowC kCells ss).drop (i *8))):=fun ty dc sc=>
  run_copy_wide w.drew 129 129 ty 139 i0 8 g ((i+1) *8) (ss.length+1 -(i+1)) dc ⟨g,i *8,none⟩ (ss.length+1 -i) sc ((rowC kCells ss).drop (i *8)) Tryz.underlying129 hinf hz1 (by rw [hdl];congr 1;show _=min _ _;omega)
   (fun j v hj=>by
     rw [Go.WideShapes.add_plain]
     rw [List.getElem?_drop] at hj
     have:=(List.getElem?_eq_some_iff.1 hj).1
     exact (ho.cellAt _ (by omega)).trans hj)
   (fun j hj=>hsome _ (by omega)) (fun j _=>ho.frozenAt _) (fun v hv=>cells8_one _ v (List.mem_of_mem_drop hv))
 obtain ⟨W1,hW1⟩:∃W1,W1=w.drew.setCells g ((i+1) *8) ((rowC kCells ss).drop (i *8)):=⟨_,rfl⟩
 have hcp2:∀ty dc,(Builtin.copy_ #[129,129] ty #[.slice (some ⟨g,i *8,none⟩) (ss.length+1 -i) dc,.slice (some ⟨vb,0,none⟩) 1 1]).run Tryz.prog W1=.ok (goInt (Nat.min 1 (ss.length+1 -i))) (W1.setCells g (i *8) (rowC kCells [x])):=fun ty dc=>
  run_copy_wide W1 129 129 ty 139 i0 8 g (i *8) (ss.length+1 -i) dc ⟨vb,0,none⟩ 1 1 (rowC kCells [x]) Tryz.underlying129 hinf hz1 (by rw [hvl,show Nat.min 1 (ss.length+1 -i)=1 from Nat.min_eq_left (by omega),Nat.one_mul])
   (fun j v hj=>by
     rw [Go.WideShapes.add_plain,Nat.zero_add,hW1,World.cell?_setCells_out g _ _ _ _ (fun h _=>absurd h hvg)]
     exact insertKey_v hv j v hj)
   (fun j hj=>by rw [hW1];exact some_setC g ((rowC kCells ss).drop (i *8)) ((i+1) *8) w.drew (fun t ht=>hsome _ (by omega)) (i *8+j) (hsome _ (by omega))) (fun j _=>by rw [hW1,World.frozen?_setCells];exact ho.frozenAt _) (cells8_one _)
 have hfin:(W1.setCells g (i *8) (rowC kCells [x])).ownsRow base 139 8 (.slice (some ⟨g,0,none⟩) (ss.length+1) cap) (ss.length+1) (rowC kCells (ss.take i++[x]++ss.drop i))/\w.grownBy (W1.setCells g (i *8) (rowC kCells [x])) (some g):=by
  refine ⟨?_,?_⟩
  ·rw [row_append,row_append,←row_take kC_len ss i (by omega),←row_drop kC_len ss i (by omega),hW1]
   exact own_shift (w:=w.drew) (own_below ho ((Below.refl _ _).drew)) (by omega) hvl hroom
  ·rw [hW1]
   exact grown_trans (grown_undrew (grown_setC g _ _ _)) (grown_setC g _ _ _)
 have HF:Hid _:=hfin
 rw [←hW1] at hcp1
 unfold maxLen at hc2
 have hz1:¬((i:Int)=(ss.length:Int)):=by omega
 have hp0:(0:Int)<=(i:Int)+1:=by omega
 have hp1:(i:Int)+1<=(ss.length:Int)+1:=by omega
 have hp2:((i:Int)+1).toNat=i+1:=by omega
 have hp3:((ss.length:Int)+1).toNat=ss.length+1:=by omega
 have hp4:(0:Int)<=(ss.length:Int)+1:=by omega
 have hp5:(ss.length:Int)+1<=(cap:Int):=by omega
 have hb2:¬(cap=i+1):=by omega
 have hb4:¬(cap=i):=by omega
 have hb5:i<=ss.length+1:=by omega
 have hb7:(i:Int)<=(ss.length:Int)+1:=by omega
 have hb8:(i:Int)<=(ss.length:Int):=by omega
 have mixed:Tryz.prog.follows .mixedOrders=true:=by kernel_rfl
 have hw1:IntKind.i64.wrap ((i:Int)+1)=(i:Int)+1:=by rw [IntKind.wrap_i64];omega
 have hw2:IntKind.i64.wrap ((ss.length:Int)+1)=(ss.length:Int)+1:=by rw [IntKind.wrap_i64];omega
 clear ho hsome hfin hv hg hc4 hc3 hinf hz0 hz2 hxs hvl hdl hW1
 go_enter Tryz.func229,Tryz.ntmps229
 go_wp2_with (simp only [hov])
 go_region_law_o (refine step_copy_known rfl _ _ 129 129 rfl (.slice (some ⟨g,(i+1) *8,none⟩) (ss.length+1 -(i+1)) (cap -(i+1))) (.slice (some ⟨g,i *8,none⟩) (ss.length+1 -i) (cap -i)) (by simp [Act.eval,Act.put]) (by simp [Act.eval,Act.put]) (hcp1 3 (cap -(i+1)) (cap -i)) ?_)
 go_wp2_with (at_builtin;refine wpList_copy_known _ rfl _ _ 129 129 rfl _ _ rfl rfl (hcp2 _ _) ?_)
 go_ret
 exact ⟨rfl,HF.out⟩
set_option maxRecDepth 20000 in
set_option maxHeartbeats 4000000 in
theorem insertKey_grow (g cap i:Nat) (ss:List ByteArray) (x:ByteArray) (vb:Nat) (w:World) (base:Nat) (ho:w.ownsRow base 139 8 (.slice (some ⟨g,0,none⟩) ss.length cap) ss.length (rowC kCells ss)) (hl:ss.length<=600) (hi:i<ss.length) (hroom:cap<ss.length+1) (hbase:base<=w.heap.size) (hv:w.heap[vb]?=some (.cells (kCells x).toArray 139 (0,0))):
 Calls Tryz.prog 229 #[.slice (some ⟨g,0,none⟩) ss.length cap,.int .i64 i,.slice (some ⟨vb,0,none⟩) 1 1] w fun e w'=>∃G,e=.returned (.slice (some ⟨w.heap.size,0,none⟩) (ss.length+1) G)/\w'.ownsRow base 139 8 (.slice (some ⟨w.heap.size,0,none⟩) (ss.length+1) G) (ss.length+1) (rowC kCells (ss.take i++[x]++ss.drop i))/\w.grownBy w' none:=by
 obtain ⟨i0,hinf,hz0,hz1,hz2⟩:=insertKey_info
 have hgw:g<w.heap.size:=(own_lt ho rfl).2
 have hvw:vb<w.heap.size:=(Array.getElem?_eq_some_iff.1 hv).1
 have hnc:ss.length<=cap:=by
  rcases ho.2 with ⟨e,_⟩|⟨g',cap',cur,e,hb,hg,h1,h2,h3,h4⟩
  ·cases e
  ·cases e;exact h1
 have hxs:(rowC kCells ss).length=ss.length *8:=row_len kC_len ss
 have hvl:(rowC kCells [x]).length=8:=by rw [row_len kC_len];rfl
 have hdl:((rowC kCells ss).drop (i *8)).length=(ss.length -i) *8:=by rw [List.length_drop,hxs];omega
 have htl:((rowC kCells ss).take (i *8)).length=i *8:=by rw [List.length_take,hxs];omega
 have hold:(Builtin.firstCells i0.size i (.slice (some ⟨g,0,none⟩) i cap)).run Tryz.prog w.drew=.ok ((rowC kCells ss).take (i *8)).toArray w.drew:=by
  rw [hz1]
  exact run_firstCells_some w.drew 8 i ⟨g,0,none⟩ i cap ((rowC kCells ss).take (i *8)) htl (fun j v hj=>by
   rw [Go.WideShapes.add_plain,Nat.zero_add]
   rw [List.getElem?_take] at hj
   split at hj
   ·exact (ho.cellAt _ (by omega)).trans hj
   ·cases hj)
 obtain ⟨G,hG⟩:∃G,G=grownCap w (ss.length+1) cap 139:=⟨_,rfl⟩
 obtain ⟨zc,hzc,hzcs⟩:∃zc:Array Value,zc=Value.cells (.agg zero8)/\zc.size=8:=⟨_,rfl,by kernel_rfl⟩
 obtain ⟨zs,hzs⟩:∃zs:List Value,zs=(Builtin.zeroCells zc (ss.length+1 -i)).toList++(Builtin.zeroCells zc (G -(ss.length+1))).toList:=⟨_,rfl⟩
 have hGn:ss.length+1<=G:=by rw [hG];exact grownCap_ge w _ _ _
 have hG63:G<=maxLen:=by
  rw [hG]
  exact grownCap_le_maxLen w (ss.length+1) cap 139 (by unfold maxLen;omega)
 have hzl:i *8+zs.length=G *8:=by
  rw [hzs]
  simp [Builtin.zeroCells,hzcs]
  omega
 have hrz:∀ty,(Builtin.append_ #[129,3] ty #[.slice (some ⟨g,0,none⟩) i cap,.int .i64 ((ss.length:Int)+1 -(i:Int))]).run Tryz.prog w=
  .ok (.slice (some ⟨w.heap.size,0,none⟩) (ss.length+1) G) (w.drew.alloc (.cells ((rowC kCells ss).take (i *8)++zs).toArray 139)):=fun ty=>by
  have hik:i+(ss.length+1 -i)=ss.length+1:=by omega
  have h:=Lib.run_append_grow_zeros (P:=Tryz.prog) w 129 3 ty 139 i0 _ .i64 .i64 Tryz.underlying129 Tryz.underlying3 hinf hz0 (some ⟨g,0,none⟩) i cap ((rowC kCells ss).take (i *8)) hold (ss.length+1 -i) (by omega) (by rw [hz1];omega) (by omega) (by omega) (by rw [hz2];omega) (by rw [hz2,hik];exact growslice_fits hroom (by omega))
  rw [hik,←hG,←hzc] at h
  rw [show (ss.length:Int)+1 -(i:Int)=((ss.length+1 -i:Nat):Int) by omega,h,hzs]
  have e:((rowC kCells ss).take (i *8)).toArray++Builtin.zeroCells zc (ss.length+1 -i)++Builtin.zeroCells zc (G -(ss.length+1))=((rowC kCells ss).take (i *8)++((Builtin.zeroCells zc (ss.length+1 -i)).toList++(Builtin.zeroCells zc (G -(ss.length+1))).toList)).toArray:=by
   apply Array.toList_inj.1
   simp
  rw [e]
 obtain ⟨W1,hW1⟩:∃W1,W1=w.drew.alloc (.cells ((rowC kCells ss).take (i *8)++zs).toArray 139):=⟨_,rfl⟩
 have hrow:W1.heap[w.heap.size]?=some (.cells ((rowC kCells ss).take (i *8)++zs).toArray 139 (0,0)):=by rw [hW1];exact heap_alloc_new w.drew _
 have hN:∀j,j<G *8->(W1.cell? ⟨w.heap.size,j,none⟩).isSome=true:=fun j hj=>by
  simp only [World.cell?,hrow]
  rw [Array.getElem?_eq_getElem (by simp [htl];omega)]
  rfl
 have hNf:∀j,W1.frozen? ⟨w.heap.size,j,none⟩=false:=fun j=>by simp [World.frozen?,hrow]
 have hO:∀b,b<w.heap.size->W1.heap[b]?=w.heap[b]?:=fun b hb=>by rw [hW1];exact alloc_same w.drew _ hb
 have hcpA:∀ty dc,(Builtin.copy_ #[129,129] ty #[.slice (some ⟨w.heap.size,i *8,none⟩) (ss.length+1 -i) dc,.slice (some ⟨vb,0,none⟩) 1 1]).run Tryz.prog W1=.ok (goInt (Nat.min 1 (ss.length+1 -i))) (W1.setCells w.heap.size (i *8) (rowC kCells [x])):=fun ty dc=>
  run_copy_wide W1 129 129 ty 139 i0 8 w.heap.size (i *8) (ss.length+1 -i) dc ⟨vb,0,none⟩ 1 1 (rowC kCells [x]) Tryz.underlying129 hinf hz1 (by rw [hvl,show Nat.min 1 (ss.length+1 -i)=1 from Nat.min_eq_left (by omega),Nat.one_mul])
   (fun j v hj=>by
     rw [Go.WideShapes.add_plain,Nat.zero_add,World.cell?_of_block (hO vb hvw)]
     exact insertKey_v hv j v hj)
   (fun j hj=>hN _ (by omega)) (fun j _=>hNf _) (cells8_one _)
 obtain ⟨W2,hW2⟩:∃W2,W2=(W1.setCells w.heap.size (i *8) (rowC kCells [x])).drew:=⟨_,rfl⟩
 have hcpB:∀ty dc sc,(Builtin.copy_ #[129,129] ty #[.slice (some ⟨w.heap.size,(i+1) *8,none⟩) (ss.length+1 -(i+1)) dc,.slice (some ⟨g,i *8,none⟩) (ss.length -i) sc]).run Tryz.prog W2=.ok (goInt (Nat.min (ss.length -i) (ss.length+1 -(i+1)))) (W2.setCells w.heap.size ((i+1) *8) ((rowC kCells ss).drop (i *8))):=fun ty dc sc=>
  run_copy_wide W2 129 129 ty 139 i0 8 w.heap.size ((i+1) *8) (ss.length+1 -(i+1)) dc ⟨g,i *8,none⟩ (ss.length -i) sc ((rowC kCells ss).drop (i *8)) Tryz.underlying129 hinf hz1 (by rw [hdl];congr 1;show _=min _ _;omega)
   (fun j v hj=>by
     rw [List.getElem?_drop] at hj
     have:=(List.getElem?_eq_some_iff.1 hj).1
     rw [Go.WideShapes.add_plain,hW2,drew_cellC,World.cell?_setCells_out _ _ _ _ _ (fun h _=>absurd h (Nat.ne_of_lt hgw)),World.cell?_of_block (hO g hgw)]
     exact (ho.cellAt _ (by omega)).trans hj)
   (fun j hj=>by rw [hW2,drew_cellC];exact some_setC w.heap.size (rowC kCells [x]) (i *8) W1 (fun t ht=>hN _ (by omega)) ((i+1) *8+j) (hN _ (by omega))) (fun j _=>by rw [hW2,drew_frozenC,World.frozen?_setCells];exact hNf _) (fun v hv=>cells8_one _ v (List.mem_of_mem_drop hv))
 have hfin:(W2.setCells w.heap.size ((i+1) *8) ((rowC kCells ss).drop (i *8))).ownsRow base 139 8 (.slice (some ⟨w.heap.size,0,none⟩) (ss.length+1) G) (ss.length+1) (rowC kCells (ss.take i++[x]++ss.drop i))/\w.grownBy (W2.setCells w.heap.size ((i+1) *8) ((rowC kCells ss).drop (i *8))) none:=by
  refine ⟨?_,?_⟩
  ·rw [row_append,row_append,←row_take kC_len ss i (by omega),←row_drop kC_len ss i (by omega),hW2,←drew_setC]
   exact own_below (own_grow (w:=W1) hxs (by omega) hvl hbase hrow hzl hGn hG63) ((Below.refl _ _).drew)
  ·have s1:W1.heap.size=w.heap.size+1:=by rw [hW1];simp
   have e1:w.grownBy W1 none:=by rw [hW1];exact ⟨rfl,rfl,rfl,by simp,fun b hb _=>alloc_same w.drew _ hb⟩
   have e2:W1.grownBy (W2.setCells w.heap.size ((i+1) *8) ((rowC kCells ss).drop (i *8))) (some w.heap.size):=by
    rw [hW2]
    exact grown_trans (grown_trans (grown_setC w.heap.size (rowC kCells [x]) (i *8) W1) (grown_drewC _ _)) (grown_setC w.heap.size ((rowC kCells ss).drop (i *8)) ((i+1) *8) _)
   exact ⟨e2.os.trans e1.os,e2.tape.trans e1.tape,e2.output.trans e1.output,Nat.le_trans e1.size e2.size,fun b hb _=>(e2.block b (by omega) (by simp;omega)).trans (e1.block b hb (by simp))⟩
 have HF:Hid _:=hfin
 have hG63':G<=9223372036854775807:=by unfold maxLen at hG63;omega
 have hq1:¬((i:Int)=(ss.length:Int)):=by omega
 have hq2:(cap:Int)<(ss.length:Int)+1:=by omega
 have hp0:(0:Int)<=(i:Int)+1:=by omega
 have hp1:(i:Int)+1<=(ss.length:Int)+1:=by omega
 have hp2:((i:Int)+1).toNat=i+1:=by omega
 have hb2:¬(cap=i):=by omega
 have hb3:¬(G=i):=by omega
 have hb4:¬(G=i+1):=by omega
 have hb5:i<=ss.length+1:=by omega
 have hb7:(i:Int)<=(ss.length:Int)+1:=by omega
 have hb8:(i:Int)<=(ss.length:Int):=by omega
 have mixed:Tryz.prog.follows .mixedOrders=true:=by kernel_rfl
 have hb6:i<=cap:=by omega
 have hw1:IntKind.i64.wrap ((i:Int)+1)=(i:Int)+1:=by rw [IntKind.wrap_i64];omega
 have hw2:IntKind.i64.wrap ((ss.length:Int)+1)=(ss.length:Int)+1:=by rw [IntKind.wrap_i64];omega
 have hw3:IntKind.i64.wrap ((ss.length:Int)+1 -(i:Int))=(ss.length:Int)+1 -(i:Int):=by rw [IntKind.wrap_i64];omega
 rw [←hW1] at hrz
 clear ho hfin hv hinf hz0 hz2 hxs hvl hdl htl hold hG hzs hzl hrow hN hNf hO hW1 hgw hvw
 go_enter Tryz.func229,Tryz.ntmps229
 go_wp2_with (first
  |(at_builtin;refine Lib.wpList_append_run _ rfl _ _ _ _ rfl _ _ rfl rfl _ _ (hrz _) ?_)
  |(at_builtin;refine wpList_copy_known _ rfl _ _ 129 129 rfl _ _ rfl rfl (hcpA _ _) ?_))
 go_region_law_o (refine step_copy_known rfl _ _ 129 129 rfl (.slice (some ⟨w.heap.size,(i+1) *8,none⟩) (ss.length+1 -(i+1)) (G -(i+1))) (.slice (some ⟨g,i *8,none⟩) (ss.length -i) (cap -i)) (by simp [Act.eval,Act.put]) (by simp [Act.eval,Act.put]) (by rw [←hW2];exact hcpB 3 (G -(i+1)) (cap -i)) ?_)
 go_wp2
 go_ret
 rw [←hW2]
 exact ⟨G,rfl,HF.out⟩
theorem insertKey_any (P:Value) (i:Nat) (ss:List ByteArray) (x:ByteArray) (vb:Nat) (w:World) (base:Nat) (ho:w.ownsRow base 139 8 P ss.length (rowC kCells ss)) (hl:ss.length<=600) (hi:i<=ss.length) (hbase:base<=w.heap.size) (hvb:P.ownBlock≠some vb) (hv:w.heap[vb]?=some (.cells (kCells x).toArray 139 (0,0))):
 Calls Tryz.prog 229 #[P,.int .i64 i,.slice (some ⟨vb,0,none⟩) 1 1] w fun e w'=>∃P',e=.returned P'/\w'.ownsRow base 139 8 P' (ss.length+1) (rowC kCells (ss.take i++[x]++ss.drop i))/\w.grownBy w' P.ownBlock/\(P'.ownBlock=P.ownBlock∨P'.ownBlock=some w.heap.size):=by
 rcases Nat.lt_or_ge i ss.length with h|h
 ·rcases ho.2 with ⟨e,hn⟩|⟨g,cap,cur,e,hb,hg,h1,h2,h3,h4⟩
  ·omega
  ·subst e
   rcases Nat.lt_or_ge cap (ss.length+1) with hc|hc
   ·refine Calls.mono (insertKey_grow g cap i ss x vb w base ho hl h hc hbase hv) ?_
    rintro e w' ⟨G,rfl,q1,q2⟩
    exact ⟨_,rfl,q1,⟨q2.os,q2.tape,q2.output,q2.size,fun b hb _=>q2.block b hb (by simp)⟩,.inr rfl⟩
   ·refine Calls.mono (insertKey_shift g cap i ss x vb w base ho hl h hc (fun e=>hvb (by rw [e];rfl)) hv) ?_
    rintro e w' ⟨rfl,q1,q2⟩
    exact ⟨_,rfl,q1,q2,.inl rfl⟩
 ·obtain rfl:i=ss.length:=by omega
  rw [List.take_length,List.drop_length,List.append_nil]
  exact insertKey_end P ss x vb w base ho hl hbase hv
end Go.Proofs.YtpekbmegopfhfaaGreatDoor
namespace Go.Proofs.YtpekbmegopfhfaaGreatDoor
open Go.ChangeShapes Go.WideShapes Go.ChangeAt Go.RowKit
set_option maxHeartbeats 1000000 in
theorem searchKey_nil (a:Option Addr) (cap:Nat) (s:ByteArray) (w:World):
 Calls Tryz.prog 239 #[.slice a 0 cap,keyV s,.func (.func 240) #[] #[]] w fun e w'=>e=.returned (.tuple #[.int .i64 0,.bool false])/\Below w.heap.size w w':=by
 unfold keyV keyA
 go_enter Tryz.func239,Tryz.ntmps239
 go_wp2
 go_loopw [9,10] (fun i j wr=>i=.int .i64 0/\j=.int .i64 0/\Below w.heap.size w wr) (fun _ _ _=>0)
 case atStart=>exact ⟨rfl,rfl,(Below.refl _ _).alloc (Nat.le_refl _) _⟩
 case round=>
  obtain ⟨rfl,rfl,hb⟩:=hrel
  have hne:=Cls.ne wr
  go_wp2
  refine region_cls_lit (by kernel_rfl) (by kernel_rfl) ?_
  repeat (go_big_quiet_step (fail))
  refine wpQuiet_nil ?_
  intro m
  go_wp2
  go_ret2
  exact ⟨by first|rfl|simp [Act.put],hb.trans (m.h.mono hb.size)⟩
theorem searchK (base:Nat) (O:Value) (ss:List ByteArray) (s:ByteArray) (w:World) (ho:w.ownsRow base 139 8 O ss.length (cells8 ss)) (hl:ss.length<=600) (hs8:s.size<=8) (hsz:∀x∈ss,x.size=s.size) (hsort:ss.Pairwise (fun a b=>less a b=true)):
 Calls Tryz.prog 239 #[O,keyV s,.func (.func 240) #[] #[]] w fun e w'=>∃i:Nat,e=.returned (.tuple #[.int .i64 i,.bool (decide (ss[i]?=some s))])/\PlaceAt ss s i/\Below w.heap.size w w':=by
 rcases ho.2 with ⟨rfl,hz⟩|⟨g,cap,cur,rfl,_⟩
 ·have:ss=[]:=List.eq_nil_of_length_eq_zero hz
  subst this
  refine (searchKey_nil none 0 s w).mono ?_
  rintro e w' ⟨rfl,hb⟩
  exact ⟨0,by simp,⟨Nat.le_refl _,fun j x h=>by omega,fun j x _ hx=>by simp at hx⟩,hb⟩
 ·exact search_any g cap ss s w base ho hl hs8 hsz hsort
set_option maxRecDepth 20000 in
set_option maxHeartbeats 4000000 in
theorem placeV (base d m:Nat) (oa:Option Addr) (oc:Nat) (P L:Value) (wd now given births:Int) (ks:List Kd) (s:ByteArray) (w:World) (hbox:CellsAt w d [.int .i64 wd,.map (some m),.int .i64 now,.int .i64 given,.int .i64 births,.slice oa ks.length oc,P,L]) (hord:w.ownsRow base 139 8 (.slice oa ks.length oc) ks.length (cells8 (ks.map (·.sum))))
 (hk:ks.length<=600) (hs8:s.size<=8) (hsz:∀x∈ks,x.sum.size=s.size) (hsort:(ks.map (·.sum)).Pairwise (fun a b=>less a b=true)):
 Calls Tryz.prog 211 #[.pointer (some ⟨d,0,none⟩),keyV s] w fun e w'=>∃i:Nat,e=.returned (.tuple #[.int .i64 i,.bool (decide ((ks.map (·.sum))[i]?=some s))])/\PlaceAt (ks.map (·.sum)) s i/\Below w.heap.size w w':=by
 obtain ⟨W,hW⟩:∃W,W=w.alloc (.cells #[.int .u8 (kB s 0),.int .u8 (kB s 1),.int .u8 (kB s 2),.int .u8 (kB s 3),.int .u8 (kB s 4),.int .u8 (kB s 5),.int .u8 (kB s 6),.int .u8 (kB s 7)] 139):=⟨_,rfl⟩
 have hB:Below w.heap.size w W:=by rw [hW];exact (Below.refl _ _).alloc (Nat.le_refl _) _
 have cb:CellsAt W w.heap.size (kCells s):=by rw [hW];exact CellsAt.new w (kCells s) 139
 have hoW:W.drew.ownsRow base 139 8 (.slice oa ks.length oc) (ks.map (·.sum)).length (cells8 (ks.map (·.sum))):=by
  rw [List.length_map]
  exact own_below hord hB.drew
 have HS:Hid _:=searchK base (.slice oa ks.length oc) (ks.map (·.sum)) s W.drew hoW (by rw [List.length_map];exact hk) hs8 (fun x hx=>by obtain ⟨y,hy,rfl⟩:=List.mem_map.1 hx;exact hsz y hy) hsort
 have S0:W.drew.cell? ⟨d,5,none⟩=some (.slice oa ks.length oc)/\(W.drew.cell? ⟨w.heap.size,0,none⟩=some (.int .u8 (kB s 0))/\W.drew.cell? ⟨w.heap.size,1,none⟩=some (.int .u8 (kB s 1))/\W.drew.cell? ⟨w.heap.size,2,none⟩=some (.int .u8 (kB s 2))/\W.drew.cell? ⟨w.heap.size,3,none⟩=some (.int .u8 (kB s 3))/\W.drew.cell? ⟨w.heap.size,4,none⟩=some (.int .u8 (kB s 4))/\W.drew.cell? ⟨w.heap.size,5,none⟩=some (.int .u8 (kB s 5))/\W.drew.cell? ⟨w.heap.size,6,none⟩=some (.int .u8 (kB s 6))/\W.drew.cell? ⟨w.heap.size,7,none⟩=some (.int .u8 (kB s 7))):=⟨(CellsAt.below hbox hB 5 _ rfl).1,box8 (w:=W.drew) cb⟩
 have HW:Hid _:=hW
 clear hW cb hoW hbox hord
 unfold keyV keyA at *
 go_enter Tryz.func211,Tryz.ntmps211
 go_upto_region 1 with fail
 rw [←HW.out]
 clear HW
 obtain ⟨s5,s60,s61,s62,s63,s64,s65,s66,s67⟩:=S0
 go_region_with (go_at_call 239;refine Calls.mono HS.out ?_;rintro e w1 ⟨i,rfl,hp,hb⟩)
 all_goals
  have HF:Hid _:=And.intro hp (hB.trans ((below_undrew hb).mono hB.size))
  clear hp hb s5 s60 s61 s62 s63 s64 s65 s66 s67 HS
  go_wp2
  go_ret2
  exact ⟨i,by first|rfl|simp [Act.put],HF.out.1,HF.out.2⟩
def insK (ks:List Kd) (x:Kd):List Kd:=ks.filter (fun k=>less k.sum x.sum)++[x]++ks.filter (fun k=> !(less k.sum x.sum))
theorem insK_mem {ks:List Kd} {x u:Kd}:u∈insK ks x↔u∈ks++[x]:=by
 unfold insK
 simp only [List.mem_append,List.mem_filter,List.mem_singleton]
 cases less u.sum x.sum<;>simp
 ·constructor
  ·rintro (h|h)
   ·exact .inr h
   ·exact .inl h
  ·rintro (h|h)
   ·exact .inr h
   ·exact .inl h
theorem insK_len (ks:List Kd) (x:Kd):(insK ks x).length=ks.length+1:=by
 unfold insK
 rw [List.length_append,List.length_append]
 have:∀l:List Kd,(l.filter (fun k=>less k.sum x.sum)).length+(l.filter (fun k=> !(less k.sum x.sum))).length=l.length:=by
  intro l
  induction l with
  |nil=>rfl
  |cons y l ih=>cases h:less y.sum x.sum<;>simp [h]<;>omega
 have:=this ks
 simp
 omega
theorem insK_place {ks:List Kd} {x:Kd} {i:Nat} (h:PlaceAt (ks.map (·.sum)) x.sum i):insK ks x=ks.take i++[x]++ks.drop i:=by
 have lo:∀k∈ks.take i,less k.sum x.sum=true:=fun k hk=>by
  obtain ⟨j,hj⟩:=List.getElem?_of_mem hk
  have hjl:=(List.getElem?_eq_some_iff.1 hj).1
  rw [List.length_take] at hjl
  rw [List.getElem?_take_of_lt (by omega)] at hj
  exact h.lo j k.sum (by omega) (by rw [List.getElem?_map,hj];rfl)
 have hi:∀k∈ks.drop i,less k.sum x.sum=false:=fun k hk=>by
  obtain ⟨j,hj⟩:=List.getElem?_of_mem hk
  rw [List.getElem?_drop] at hj
  exact h.hi (i+j) k.sum (by omega) (by rw [List.getElem?_map,hj];rfl)
 have e:ks=ks.take i++ks.drop i:=(List.take_append_drop i ks).symm
 unfold insK
 conv=>lhs;rw [e]
 rw [List.filter_append,List.filter_append,List.filter_eq_self.2 lo,List.filter_eq_nil_iff.2 (fun k hk=>by rw [hi k hk];simp),List.filter_eq_nil_iff.2 (fun k hk=>by rw [lo k hk];simp),List.filter_eq_self.2 (fun k hk=>by rw [hi k hk];rfl)]
 simp
end Go.Proofs.YtpekbmegopfhfaaGreatDoor
namespace Go.Proofs.YtpekbmegopfhfaaGreatDoor
open Go.ChangeShapes Go.WideShapes Go.ChangeAt Go.RowKit
theorem own_setSum {w:World} {base g cap n:Nat} {ps:List Pd} (h:w.ownsRow base 134 2 (.slice (some ⟨g,0,none⟩) n cap) n (rowC pC ps)) {i:Nat} {x:Pd} (hx:ps[i]?=some x) (s:ByteArray):(w.setCell ⟨g,i *2+1,none⟩ (.string s)).ownsRow base 134 2 (.slice (some ⟨g,0,none⟩) n cap) n (rowC pC (ps.set i ⟨x.name,s⟩)):=by
 have hi:=(List.getElem?_eq_some_iff.1 hx).1
 have h1:=(h.stored (i *2+1) (.string s)).1
 have h0:(rowC pC ps)[i *2]?=some (.string x.name):=by
  have:=row_get pC_len hx (show 0<2 by decide)
  simpa [pC] using this
 have e1:=row_setP hi (⟨x.name,s⟩:Pd)
 have e0:(rowC pC ps).set (i *2) (.string x.name)=rowC pC ps:=by
  obtain ⟨hl,e⟩:=List.getElem?_eq_some_iff.1 h0
  rw [←e]
  exact List.set_getElem_self hl
 rw [e0] at e1
 rw [e1] at h1
 exact h1
set_option maxRecDepth 20000 in
set_option maxHeartbeats 4000000 in
theorem pin_old (base d m:Nat) (O P L:Value) (wd now given births:Int) (ks:List Kd) (ps:List Pd) (ls:List Ld) (n s:ByteArray) (w:World) (h:DU w base d m O P L wd now given births ks ps ls) (hsz:∀k∈ks,(k.sum.size:Int)=wd) (hths:There ks s) (hl:ps.length<=200) (hsort:ps.Pairwise (fun a b=>less a.name b.name=true)) (hth:∃x∈ps,x.name=n):
 Calls Tryz.prog 170 #[.pointer (some ⟨d,0,none⟩),.string n,.string s] w fun e w'=>e=.returned (.tuple #[])/\∃P',DU w' base d m O P' L wd now given births ks (pinP ps n s) ls/\Tn (d::P.ownBlock.toList) w w':=by
 have hpos:0<ps.length:=by obtain ⟨x,hx,_⟩:=hth;exact List.length_pos_of_mem hx
 obtain ⟨g,cap,hLe⟩:=own_some' h.dr.pin hpos
 subst hLe
 have HN:Hid _:=need_yes base d m O (.slice (some ⟨g,0,none⟩) ps.length cap) L wd now given births ks ps ls s w h.dr hsz hths
 have HD:Hid (DU w base d m O (.slice (some ⟨g,0,none⟩) ps.length cap) L wd now given births ks ps ls):=h
 have HSo:Hid (ps.Pairwise (fun a b=>less a.name b.name=true)):=hsort
 have HTh:Hid (∃x∈ps,x.name=n):=hth
 clear h hsort hth hsz hths
 go_enter Tryz.func170,Tryz.ntmps170
 go_wp2_with fail
 refine Calls.mono HN.out ?_
 rintro e w1 ⟨rfl,hb1⟩
 have hD1:=HD.out.below hb1
 have HS:Hid _:=pinPlace_any base d m O L g cap wd now given births ks ps ls n w1 hD1 hl HSo.out
 clear HN
 go_wp2_with fail
 refine Calls.mono HS.out ?_
 rintro e w2 ⟨i,rfl,hp1,hb2⟩
 obtain ⟨x,hxi,hxn⟩:=hp1.at HTh.out HSo.out
 have hdec:decide (∃x,ps[i]?=some x/\x.name=n)=true:=by simpa using ⟨x,hxi,hxn⟩
 have hil:i<ps.length:=(List.getElem?_eq_some_iff.1 hxi).1
 have HE:Hid (pinP ps n s=ps.set i ⟨n,s⟩):=pinP_set hp1 hxi hxn HSo.out
 have hD2:=hD1.below hb2
 obtain ⟨c6,_⟩:=hD2.dr.box 6 _ rfl
 have hc1:w2.cell? ⟨g,i *2+1,none⟩=some (.string x.sum):=by
  have:=(hD2.dr.pin.cellAt (i *2+1) (by omega)).trans (row_get pC_len hxi (show 1<2 by decide))
  simpa [pC] using this
 have hf1:w2.frozen? ⟨g,i *2+1,none⟩=false:=hD2.dr.pin.frozenAt _
 have hne:g≠d:=((ap_parts hD2.dr.ap).2.2.1 g rfl).1
 have hset:=own_setSum hD2.dr.pin hxi s
 rw [hxn] at hset
 have hK:∃P',DU (w2.setCell ⟨g,i *2+1,none⟩ (.string s)) base d m O P' L wd now given births ks (pinP ps n s) ls/\Tn (d::(Value.slice (some ⟨g,0,none⟩) ps.length cap).ownBlock.toList) w (w2.setCell ⟨g,i *2+1,none⟩ (.string s)):=by
  have t1:Tn (d::(Value.slice (some ⟨g,0,none⟩) ps.length cap).ownBlock.toList) w2 (w2.setCell ⟨g,i *2+1,none⟩ (.string s)):=(tn1 w2 g _ _).mono (by intro b hb;simp [Value.ownBlock] at hb ⊢;exact .inr hb)
  have hbx:CellsAt (w2.setCell ⟨g,i *2+1,none⟩ (.string s)) d [.int .i64 wd,.map (some m),.int .i64 now,.int .i64 given,.int .i64 births,O,.slice (some ⟨g,0,none⟩) ps.length cap,L]:=CellsAt.same hD2.dr.box (Below.heap_setCell _ _ _ _ (fun e=>hne e.symm))
  refine ⟨.slice (some ⟨g,0,none⟩) ps.length cap,hD2.newP t1 hbx ?_ (.inl rfl),(Tn.of (hb1.trans (hb2.mono hb1.size))).trans t1⟩
  rw [HE.out,List.length_set]
  exact hset
 have HK:Hid _:=hK
 have hil':(i:Int)<ps.length:=by omega
 rw [hdec]
 clear hdec hK hset hxi hxn hp1 hD1 hD2 hb1 hb2 HD HS HTh HSo
 go_wp2
 refine bodyPost_ret (results_none rfl _ _ _) rfl ?_
 exact ⟨rfl,HK.out⟩
set_option maxHeartbeats 1000000 in
theorem pin_missing (base d m:Nat) (O P L:Value) (wd now given births:Int) (ks:List Kd) (ps:List Pd) (ls:List Ld) (n s:ByteArray) (w:World) (h:DU w base d m O P L wd now given births ks ps ls) (hsz:∀k∈ks,(k.sum.size:Int)=wd) (hths:¬There ks s):
 Calls Tryz.prog 170 #[.pointer (some ⟨d,0,none⟩),.string n,.string s] w fun e w'=>e=.panicked [{v:=refV 2 ⟨#[]⟩ ⟨#[]⟩,recovered:=false}]/\Below w.heap.size w w':=by
 have HN:Hid _:=need_no base d m O P L wd now given births ks ps ls s w h.dr hsz hths
 clear h hsz hths
 go_enter Tryz.func170,Tryz.ntmps170
 go_wp2_with fail
 refine Calls.mono HN.out ?_
 rintro e w1 ⟨rfl,hb1⟩
 go_wp2
 exact ⟨rfl,rfl,hb1⟩
set_option maxRecDepth 20000 in
set_option maxHeartbeats 4000000 in
theorem pin_full (base d m:Nat) (O P L:Value) (wd now given births:Int) (ks:List Kd) (ps:List Pd) (ls:List Ld) (n s:ByteArray) (w:World) (h:DU w base d m O P L wd now given births ks ps ls) (hsz:∀k∈ks,(k.sum.size:Int)=wd) (hths:There ks s) (hl:ps.length=100) (hsort:ps.Pairwise (fun a b=>less a.name b.name=true)) (hth:¬∃x∈ps,x.name=n):
 Calls Tryz.prog 170 #[.pointer (some ⟨d,0,none⟩),.string n,.string s] w fun e w'=>e=.panicked [{v:=refV 4 ⟨#[]⟩ ⟨#[]⟩,recovered:=false}]/\Below w.heap.size w w':=by
 obtain ⟨pa,pcp,hLe⟩:=own_val h.dr.pin
 subst hLe
 have HN:Hid _:=need_yes base d m O (.slice pa ps.length pcp) L wd now given births ks ps ls s w h.dr hsz hths
 have HD:Hid (DU w base d m O (.slice pa ps.length pcp) L wd now given births ks ps ls):=h
 have HSo:Hid (ps.Pairwise (fun a b=>less a.name b.name=true)):=hsort
 have HTh:Hid (¬∃x∈ps,x.name=n):=hth
 have hll:((ps.length:Int)==100)=true:=by simp;omega
 have HLe:Hid (ps.length=100):=hl
 clear h hsort hth hsz hths hl
 go_enter Tryz.func170,Tryz.ntmps170
 go_wp2_with fail
 refine Calls.mono HN.out ?_
 rintro e w1 ⟨rfl,hb1⟩
 have hD1:=HD.out.below hb1
 have HS:Hid _:=pinPlaceV base d m O (.slice pa ps.length pcp) L wd now given births ks ps ls n w1 hD1 (by have:=HLe.out;omega) HSo.out
 clear HN
 go_wp2_with fail
 refine Calls.mono HS.out ?_
 rintro e w2 ⟨i,rfl,_,hb2⟩
 have hdec:decide (∃x,ps[i]?=some x/\x.name=n)=false:=by
  rw [decide_eq_false_iff_not]
  rintro ⟨x,hx,hn⟩
  exact HTh.out ⟨x,List.mem_of_getElem? hx,hn⟩
 have hD2:=hD1.below hb2
 obtain ⟨c6,_⟩:=hD2.dr.box 6 _ rfl
 have HB:Hid (Below w.heap.size w w2):=hb1.trans (hb2.mono hb1.size)
 rw [hdec]
 clear hdec hD1 hD2 hb1 hb2 HD HS HTh HSo
 go_wp2
 exact ⟨rfl,rfl,HB.out⟩
end Go.Proofs.YtpekbmegopfhfaaGreatDoor
namespace Go.Proofs.YtpekbmegopfhfaaGreatDoor
open Go.ChangeShapes Go.WideShapes Go.ChangeAt Go.RowKit Go.Lib
theorem insertPin_info:∃i:TypeInfo,Tryz.prog.info? 134=some i/\i.zero=some (.agg #[.string ⟨#[]⟩,.string ⟨#[]⟩])/\i.size=2/\i.bytes=32:=by
 obtain ⟨i0,hi,h0,h1,h2⟩:=info_parts Tryz.infoPin
 exact ⟨i0,hi,h0,h1,h2⟩
theorem insertPin_v {w:World} {vb:Nat} {x:Pd} (hv:w.heap[vb]?=some (.cells #[.string x.name,.string x.sum] 134 (0,0))):∀j u,(rowC pC [x])[j]?=some u->w.cell? ⟨vb,j,none⟩=some u:=by
 intro j u hu
 rw [rowC,List.flatMap_cons,List.flatMap_nil,List.append_nil] at hu
 simp only [World.cell?,hv]
 rw [←hu]
 simp [pC]
set_option maxRecDepth 20000 in
set_option maxHeartbeats 4000000 in
theorem insertPin_end (P:Value) (ss:List Pd) (x:Pd) (vb:Nat) (w:World) (base:Nat) (ho:w.ownsRow base 134 2 P ss.length (rowC pC ss)) (hl:ss.length<=600) (hbase:base<=w.heap.size) (hv:w.heap[vb]?=some (.cells #[.string x.name,.string x.sum] 134 (0,0))):
 Calls Tryz.prog 202 #[P,.int .i64 ss.length,.slice (some ⟨vb,0,none⟩) 1 1] w fun e w'=>∃P',e=.returned P'/\w'.ownsRow base 134 2 P' (ss.length+1) (rowC pC (ss++[x]))/\w.grownBy w' P.ownBlock/\(P'.ownBlock=P.ownBlock∨P'.ownBlock=some w.heap.size):=by
 obtain ⟨i0,hinf,hz0,hz1,hz2⟩:=insertPin_info
 obtain ⟨v',w',hr,h2,h3,_,h5⟩:=run_append_own_at (P:=Tryz.prog) w base 25 25 134 i0 _ 2 32 Tryz.underlying25 hinf hz0 hz1 hz2 rfl (by decide) P ss.length (rowC pC ss) ho ⟨vb,0,none⟩ 1 1 (rowC pC [x]) (by rw [row_len pC_len];rfl) (fun j u hu=>by rw [Go.WideShapes.add_plain,Nat.zero_add];exact insertPin_v hv j u hu) (oneP _) (by unfold maxLen;omega) (by omega) hbase
 rw [←row_append] at h2
 have HO:Hid _:=And.intro h2 (And.intro h3 h5)
 clear h2 h3 h5
 rcases ho.2 with ⟨e,hn0⟩|⟨g,cap,cur,e,hb,hg,h1,h2,h3,h4⟩
 ·subst e
  rw [hn0] at HO ⊢
  clear ho hv hinf hz0 hz1 hz2
  go_enter Tryz.func202,Tryz.ntmps202
  go_wp2_with (at_builtin;refine Lib.wpList_append_run _ rfl _ _ _ _ rfl _ _ rfl rfl _ _ hr ?_)
  go_ret
  exact ⟨v',rfl,HO.out⟩
 ·subst e
  clear ho hv hinf hz0 hz1 hz2 hg h3 h4
  unfold maxLen at h2
  by_cases hc:cap=ss.length
  ·subst hc
   go_enter Tryz.func202,Tryz.ntmps202
   go_wp2_with (at_builtin;refine Lib.wpList_append_run _ rfl _ _ _ _ rfl _ _ rfl rfl _ _ hr ?_)
   go_ret
   exact ⟨v',rfl,HO.out⟩
  ·go_enter Tryz.func202,Tryz.ntmps202
   go_wp2_with (at_builtin;refine Lib.wpList_append_run _ rfl _ _ _ _ rfl _ _ rfl rfl _ _ hr ?_)
   go_ret
   exact ⟨v',rfl,HO.out⟩
set_option maxRecDepth 20000 in
set_option maxHeartbeats 4000000 in
theorem insertPin_shift (g cap i:Nat) (ss:List Pd) (x:Pd) (vb:Nat) (w:World) (base:Nat) (ho:w.ownsRow base 134 2 (.slice (some ⟨g,0,none⟩) ss.length cap) ss.length (rowC pC ss)) (hl:ss.length<=600) (hi:i<ss.length) (hroom:ss.length+1<=cap) (hvg:vb≠g) (hv:w.heap[vb]?=some (.cells #[.string x.name,.string x.sum] 134 (0,0))):
 Calls Tryz.prog 202 #[.slice (some ⟨g,0,none⟩) ss.length cap,.int .i64 i,.slice (some ⟨vb,0,none⟩) 1 1] w fun e w'=>e=.returned (.slice (some ⟨g,0,none⟩) (ss.length+1) cap)/\w'.ownsRow base 134 2 (.slice (some ⟨g,0,none⟩) (ss.length+1) cap) (ss.length+1) (rowC pC (ss.take i++[x]++ss.drop i))/\w.grownBy w' (some g):=by
 obtain ⟨i0,hinf,hz0,hz1,hz2⟩:=insertPin_info
 obtain ⟨cur,hg,hc1,hc2,hc3,hc4⟩:∃cur,w.heap[g]?=some (.cells cur 134 (0,0))/\ss.length<=cap/\cap<=maxLen/\cur.size=cap *2/\cur.toList.take (ss.length *2)=rowC pC ss:=by
  rcases ho.2 with ⟨e,_⟩|⟨g',cap',cur,e,hb,hg,h1,h2,h3,h4⟩
  ·cases e
  ·cases e;exact ⟨cur,hg,h1,h2,h3,h4⟩
 have hxs:(rowC pC ss).length=ss.length *2:=row_len pC_len ss
 have hvl:(rowC pC [x]).length=2:=by rw [row_len pC_len];rfl
 have hdl:((rowC pC ss).drop (i *2)).length=(ss.length -i) *2:=by rw [List.length_drop,hxs];omega
 have hsome:∀j,j<cap *2->(w.cell? ⟨g,j,none⟩).isSome=true:=fun j hj=>by
  simp only [World.cell?,hg]
  rw [Array.getElem?_eq_getElem (by omega)]
  rfl
 have hov:∀lb cb,(callFunc 233 #[.slice (some ⟨vb,0,none⟩) 1 1,.slice (some ⟨g,(i+1) *2,none⟩) lb cb]).run Tryz.prog w=.ok (.value (.bool false)) w:=fun lb cb=>by
  rw [run_callFunc_extern Tryz.func233 (by kernel_rfl) (by kernel_rfl) (by kernel_rfl) (e:=Extern.SlicesOverlaps.overlaps #[25,25] #[4]) (by kernel_rfl),
   Lib.run_overlaps_apart w 25 4 134 Tryz.underlying25 2 (fun w=>by simp [sizeOf,typeInfo,hinf,hz1]) ⟨vb,0,none⟩ ⟨g,(i+1) *2,none⟩ 1 1 lb cb hvg 134 134 (#[.string x.name,.string x.sum]:Array Value).size cur.size (by simp only [World.shape?,hv]) (by simp only [World.shape?,hg]) (by rw [hc3];omega) (by simp only [World.frozen?,hv];rfl) (by simp [World.frozen?,hv])]
  rfl
 have hcp1:∀ty dc sc,(Builtin.copy_ #[25,25] ty #[.slice (some ⟨g,(i+1) *2,none⟩) (ss.length+1 -(i+1)) dc,.slice (some ⟨g,i *2,none⟩) (ss.length+1 -i) sc]).run Tryz.prog w.drew=.ok (goInt (Nat.min (ss.length+1 -i) (ss.length+1 -(i+1)))) (w.drew.setCells g ((i+1) *2) ((rowC pC ss).drop (i *2))):=fun ty dc sc=>
  run_copy_wide w.drew 25 25 ty 134 i0 2 g ((i+1) *2) (ss.length+1 -(i+1)) dc ⟨g,i *2,none⟩ (ss.length+1 -i) sc ((rowC pC ss).drop (i *2)) Tryz.underlying25 hinf hz1 (by rw [hdl];congr 1;show _=min _ _;omega)
   (fun j v hj=>by
     rw [Go.WideShapes.add_plain]
     rw [List.getElem?_drop] at hj
     have:=(List.getElem?_eq_some_iff.1 hj).1
     exact (ho.cellAt _ (by omega)).trans hj)
   (fun j hj=>hsome _ (by omega)) (fun j _=>ho.frozenAt _) (fun v hv=>oneP _ v (List.mem_of_mem_drop hv))
 obtain ⟨W1,hW1⟩:∃W1,W1=w.drew.setCells g ((i+1) *2) ((rowC pC ss).drop (i *2)):=⟨_,rfl⟩
 have hcp2:∀ty dc,(Builtin.copy_ #[25,25] ty #[.slice (some ⟨g,i *2,none⟩) (ss.length+1 -i) dc,.slice (some ⟨vb,0,none⟩) 1 1]).run Tryz.prog W1=.ok (goInt (Nat.min 1 (ss.length+1 -i))) (W1.setCells g (i *2) (rowC pC [x])):=fun ty dc=>
  run_copy_wide W1 25 25 ty 134 i0 2 g (i *2) (ss.length+1 -i) dc ⟨vb,0,none⟩ 1 1 (rowC pC [x]) Tryz.underlying25 hinf hz1 (by rw [hvl,show Nat.min 1 (ss.length+1 -i)=1 from Nat.min_eq_left (by omega),Nat.one_mul])
   (fun j v hj=>by
     rw [Go.WideShapes.add_plain,Nat.zero_add,hW1,World.cell?_setCells_out g _ _ _ _ (fun h _=>absurd h hvg)]
     exact insertPin_v hv j v hj)
   (fun j hj=>by rw [hW1];exact some_setC g ((rowC pC ss).drop (i *2)) ((i+1) *2) w.drew (fun t ht=>hsome _ (by omega)) (i *2+j) (hsome _ (by omega))) (fun j _=>by rw [hW1,World.frozen?_setCells];exact ho.frozenAt _) (oneP _)
 have hfin:(W1.setCells g (i *2) (rowC pC [x])).ownsRow base 134 2 (.slice (some ⟨g,0,none⟩) (ss.length+1) cap) (ss.length+1) (rowC pC (ss.take i++[x]++ss.drop i))/\w.grownBy (W1.setCells g (i *2) (rowC pC [x])) (some g):=by
  refine ⟨?_,?_⟩
  ·rw [row_append,row_append,←row_take pC_len ss i (by omega),←row_drop pC_len ss i (by omega),hW1]
   exact own_shift (w:=w.drew) (own_below ho ((Below.refl _ _).drew)) (by omega) hvl hroom
  ·rw [hW1]
   exact grown_trans (grown_undrew (grown_setC g _ _ _)) (grown_setC g _ _ _)
 have HF:Hid _:=hfin
 rw [←hW1] at hcp1
 unfold maxLen at hc2
 have hz1:¬((i:Int)=(ss.length:Int)):=by omega
 have hp0:(0:Int)<=(i:Int)+1:=by omega
 have hp1:(i:Int)+1<=(ss.length:Int)+1:=by omega
 have hp2:((i:Int)+1).toNat=i+1:=by omega
 have hp3:((ss.length:Int)+1).toNat=ss.length+1:=by omega
 have hp4:(0:Int)<=(ss.length:Int)+1:=by omega
 have hp5:(ss.length:Int)+1<=(cap:Int):=by omega
 have hb2:¬(cap=i+1):=by omega
 have hb4:¬(cap=i):=by omega
 have hb5:i<=ss.length+1:=by omega
 have hb7:(i:Int)<=(ss.length:Int)+1:=by omega
 have hb8:(i:Int)<=(ss.length:Int):=by omega
 have mixed:Tryz.prog.follows .mixedOrders=true:=by kernel_rfl
 have hw1:IntKind.i64.wrap ((i:Int)+1)=(i:Int)+1:=by rw [IntKind.wrap_i64];omega
 have hw2:IntKind.i64.wrap ((ss.length:Int)+1)=(ss.length:Int)+1:=by rw [IntKind.wrap_i64];omega
 clear ho hsome hfin hv hg hc4 hc3 hinf hz0 hz2 hxs hvl hdl hW1
 go_enter Tryz.func202,Tryz.ntmps202
 go_wp2_with (simp only [hov])
 go_region_law_o (refine step_copy_known rfl _ _ 25 25 rfl (.slice (some ⟨g,(i+1) *2,none⟩) (ss.length+1 -(i+1)) (cap -(i+1))) (.slice (some ⟨g,i *2,none⟩) (ss.length+1 -i) (cap -i)) (by simp [Act.eval,Act.put]) (by simp [Act.eval,Act.put]) (hcp1 3 (cap -(i+1)) (cap -i)) ?_)
 go_wp2_with (at_builtin;refine wpList_copy_known _ rfl _ _ 25 25 rfl _ _ rfl rfl (hcp2 _ _) ?_)
 go_ret
 exact ⟨rfl,HF.out⟩
set_option maxRecDepth 20000 in
set_option maxHeartbeats 4000000 in
theorem insertPin_grow (g cap i:Nat) (ss:List Pd) (x:Pd) (vb:Nat) (w:World) (base:Nat) (ho:w.ownsRow base 134 2 (.slice (some ⟨g,0,none⟩) ss.length cap) ss.length (rowC pC ss)) (hl:ss.length<=600) (hi:i<ss.length) (hroom:cap<ss.length+1) (hbase:base<=w.heap.size) (hv:w.heap[vb]?=some (.cells #[.string x.name,.string x.sum] 134 (0,0))):
 Calls Tryz.prog 202 #[.slice (some ⟨g,0,none⟩) ss.length cap,.int .i64 i,.slice (some ⟨vb,0,none⟩) 1 1] w fun e w'=>∃G,e=.returned (.slice (some ⟨w.heap.size,0,none⟩) (ss.length+1) G)/\w'.ownsRow base 134 2 (.slice (some ⟨w.heap.size,0,none⟩) (ss.length+1) G) (ss.length+1) (rowC pC (ss.take i++[x]++ss.drop i))/\w.grownBy w' none:=by
 obtain ⟨i0,hinf,hz0,hz1,hz2⟩:=insertPin_info
 have hgw:g<w.heap.size:=(own_lt ho rfl).2
 have hvw:vb<w.heap.size:=(Array.getElem?_eq_some_iff.1 hv).1
 have hnc:ss.length<=cap:=by
  rcases ho.2 with ⟨e,_⟩|⟨g',cap',cur,e,hb,hg,h1,h2,h3,h4⟩
  ·cases e
  ·cases e;exact h1
 have hxs:(rowC pC ss).length=ss.length *2:=row_len pC_len ss
 have hvl:(rowC pC [x]).length=2:=by rw [row_len pC_len];rfl
 have hdl:((rowC pC ss).drop (i *2)).length=(ss.length -i) *2:=by rw [List.length_drop,hxs];omega
 have htl:((rowC pC ss).take (i *2)).length=i *2:=by rw [List.length_take,hxs];omega
 have hold:(Builtin.firstCells i0.size i (.slice (some ⟨g,0,none⟩) i cap)).run Tryz.prog w.drew=.ok ((rowC pC ss).take (i *2)).toArray w.drew:=by
  rw [hz1]
  exact run_firstCells_some w.drew 2 i ⟨g,0,none⟩ i cap ((rowC pC ss).take (i *2)) htl (fun j v hj=>by
   rw [Go.WideShapes.add_plain,Nat.zero_add]
   rw [List.getElem?_take] at hj
   split at hj
   ·exact (ho.cellAt _ (by omega)).trans hj
   ·cases hj)
 obtain ⟨G,hG⟩:∃G,G=grownCap w (ss.length+1) cap 134:=⟨_,rfl⟩
 obtain ⟨zc,hzc,hzcs⟩:∃zc:Array Value,zc=Value.cells (.agg #[.string ⟨#[]⟩,.string ⟨#[]⟩])/\zc.size=2:=⟨_,rfl,by kernel_rfl⟩
 obtain ⟨zs,hzs⟩:∃zs:List Value,zs=(Builtin.zeroCells zc (ss.length+1 -i)).toList++(Builtin.zeroCells zc (G -(ss.length+1))).toList:=⟨_,rfl⟩
 have hGn:ss.length+1<=G:=by rw [hG];exact grownCap_ge w _ _ _
 have hG63:G<=maxLen:=by
  rw [hG]
  exact grownCap_le_maxLen w (ss.length+1) cap 134 (by unfold maxLen;omega)
 have hzl:i *2+zs.length=G *2:=by
  rw [hzs]
  simp [Builtin.zeroCells,hzcs]
  omega
 have hrz:∀ty,(Builtin.append_ #[25,3] ty #[.slice (some ⟨g,0,none⟩) i cap,.int .i64 ((ss.length:Int)+1 -(i:Int))]).run Tryz.prog w=
  .ok (.slice (some ⟨w.heap.size,0,none⟩) (ss.length+1) G) (w.drew.alloc (.cells ((rowC pC ss).take (i *2)++zs).toArray 134)):=fun ty=>by
  have hik:i+(ss.length+1 -i)=ss.length+1:=by omega
  have h:=Lib.run_append_grow_zeros (P:=Tryz.prog) w 25 3 ty 134 i0 _ .i64 .i64 Tryz.underlying25 Tryz.underlying3 hinf hz0 (some ⟨g,0,none⟩) i cap ((rowC pC ss).take (i *2)) hold (ss.length+1 -i) (by omega) (by rw [hz1];omega) (by omega) (by omega) (by rw [hz2];omega) (by rw [hz2,hik];exact growslice_fits hroom (by omega))
  rw [hik,←hG,←hzc] at h
  rw [show (ss.length:Int)+1 -(i:Int)=((ss.length+1 -i:Nat):Int) by omega,h,hzs]
  have e:((rowC pC ss).take (i *2)).toArray++Builtin.zeroCells zc (ss.length+1 -i)++Builtin.zeroCells zc (G -(ss.length+1))=((rowC pC ss).take (i *2)++((Builtin.zeroCells zc (ss.length+1 -i)).toList++(Builtin.zeroCells zc (G -(ss.length+1))).toList)).toArray:=by
   apply Array.toList_inj.1
   simp
  rw [e]
 obtain ⟨W1,hW1⟩:∃W1,W1=w.drew.alloc (.cells ((rowC pC ss).take (i *2)++zs).toArray 134):=⟨_,rfl⟩
 have hrow:W1.heap[w.heap.size]?=some (.cells ((rowC pC ss).take (i *2)++zs).toArray 134 (0,0)):=by rw [hW1];exact heap_alloc_new w.drew _
 have hN:∀j,j<G *2->(W1.cell? ⟨w.heap.size,j,none⟩).isSome=true:=fun j hj=>by
  simp only [World.cell?,hrow]
  rw [Array.getElem?_eq_getElem (by simp [htl];omega)]
  rfl
 have hNf:∀j,W1.frozen? ⟨w.heap.size,j,none⟩=false:=fun j=>by simp [World.frozen?,hrow]
 have hO:∀b,b<w.heap.size->W1.heap[b]?=w.heap[b]?:=fun b hb=>by rw [hW1];exact alloc_same w.drew _ hb
 have hcpA:∀ty dc,(Builtin.copy_ #[25,25] ty #[.slice (some ⟨w.heap.size,i *2,none⟩) (ss.length+1 -i) dc,.slice (some ⟨vb,0,none⟩) 1 1]).run Tryz.prog W1=.ok (goInt (Nat.min 1 (ss.length+1 -i))) (W1.setCells w.heap.size (i *2) (rowC pC [x])):=fun ty dc=>
  run_copy_wide W1 25 25 ty 134 i0 2 w.heap.size (i *2) (ss.length+1 -i) dc ⟨vb,0,none⟩ 1 1 (rowC pC [x]) Tryz.underlying25 hinf hz1 (by rw [hvl,show Nat.min 1 (ss.length+1 -i)=1 from Nat.min_eq_left (by omega),Nat.one_mul])
   (fun j v hj=>by
     rw [Go.WideShapes.add_plain,Nat.zero_add,World.cell?_of_block (hO vb hvw)]
     exact insertPin_v hv j v hj)
   (fun j hj=>hN _ (by omega)) (fun j _=>hNf _) (oneP _)
 obtain ⟨W2,hW2⟩:∃W2,W2=(W1.setCells w.heap.size (i *2) (rowC pC [x])).drew:=⟨_,rfl⟩
 have hcpB:∀ty dc sc,(Builtin.copy_ #[25,25] ty #[.slice (some ⟨w.heap.size,(i+1) *2,none⟩) (ss.length+1 -(i+1)) dc,.slice (some ⟨g,i *2,none⟩) (ss.length -i) sc]).run Tryz.prog W2=.ok (goInt (Nat.min (ss.length -i) (ss.length+1 -(i+1)))) (W2.setCells w.heap.size ((i+1) *2) ((rowC pC ss).drop (i *2))):=fun ty dc sc=>
  run_copy_wide W2 25 25 ty 134 i0 2 w.heap.size ((i+1) *2) (ss.length+1 -(i+1)) dc ⟨g,i *2,none⟩ (ss.length -i) sc ((rowC pC ss).drop (i *2)) Tryz.underlying25 hinf hz1 (by rw [hdl];congr 1;show _=min _ _;omega)
   (fun j v hj=>by
     rw [List.getElem?_drop] at hj
     have:=(List.getElem?_eq_some_iff.1 hj).1
     rw [Go.WideShapes.add_plain,hW2,drew_cellC,World.cell?_setCells_out _ _ _ _ _ (fun h _=>absurd h (Nat.ne_of_lt hgw)),World.cell?_of_block (hO g hgw)]
     exact (ho.cellAt _ (by omega)).trans hj)
   (fun j hj=>by rw [hW2,drew_cellC];exact some_setC w.heap.size (rowC pC [x]) (i *2) W1 (fun t ht=>hN _ (by omega)) ((i+1) *2+j) (hN _ (by omega))) (fun j _=>by rw [hW2,drew_frozenC,World.frozen?_setCells];exact hNf _) (fun v hv=>oneP _ v (List.mem_of_mem_drop hv))
 have hfin:(W2.setCells w.heap.size ((i+1) *2) ((rowC pC ss).drop (i *2))).ownsRow base 134 2 (.slice (some ⟨w.heap.size,0,none⟩) (ss.length+1) G) (ss.length+1) (rowC pC (ss.take i++[x]++ss.drop i))/\w.grownBy (W2.setCells w.heap.size ((i+1) *2) ((rowC pC ss).drop (i *2))) none:=by
  refine ⟨?_,?_⟩
  ·rw [row_append,row_append,←row_take pC_len ss i (by omega),←row_drop pC_len ss i (by omega),hW2,←drew_setC]
   exact own_below (own_grow (w:=W1) hxs (by omega) hvl hbase hrow hzl hGn hG63) ((Below.refl _ _).drew)
  ·have s1:W1.heap.size=w.heap.size+1:=by rw [hW1];simp
   have e1:w.grownBy W1 none:=by rw [hW1];exact ⟨rfl,rfl,rfl,by simp,fun b hb _=>alloc_same w.drew _ hb⟩
   have e2:W1.grownBy (W2.setCells w.heap.size ((i+1) *2) ((rowC pC ss).drop (i *2))) (some w.heap.size):=by
    rw [hW2]
    exact grown_trans (grown_trans (grown_setC w.heap.size (rowC pC [x]) (i *2) W1) (grown_drewC _ _)) (grown_setC w.heap.size ((rowC pC ss).drop (i *2)) ((i+1) *2) _)
   exact ⟨e2.os.trans e1.os,e2.tape.trans e1.tape,e2.output.trans e1.output,Nat.le_trans e1.size e2.size,fun b hb _=>(e2.block b (by omega) (by simp;omega)).trans (e1.block b hb (by simp))⟩
 have HF:Hid _:=hfin
 have hG63':G<=9223372036854775807:=by unfold maxLen at hG63;omega
 have hq1:¬((i:Int)=(ss.length:Int)):=by omega
 have hq2:(cap:Int)<(ss.length:Int)+1:=by omega
 have hp0:(0:Int)<=(i:Int)+1:=by omega
 have hp1:(i:Int)+1<=(ss.length:Int)+1:=by omega
 have hp2:((i:Int)+1).toNat=i+1:=by omega
 have hb2:¬(cap=i):=by omega
 have hb3:¬(G=i):=by omega
 have hb4:¬(G=i+1):=by omega
 have hb5:i<=ss.length+1:=by omega
 have hb7:(i:Int)<=(ss.length:Int)+1:=by omega
 have hb8:(i:Int)<=(ss.length:Int):=by omega
 have mixed:Tryz.prog.follows .mixedOrders=true:=by kernel_rfl
 have hb6:i<=cap:=by omega
 have hw1:IntKind.i64.wrap ((i:Int)+1)=(i:Int)+1:=by rw [IntKind.wrap_i64];omega
 have hw2:IntKind.i64.wrap ((ss.length:Int)+1)=(ss.length:Int)+1:=by rw [IntKind.wrap_i64];omega
 have hw3:IntKind.i64.wrap ((ss.length:Int)+1 -(i:Int))=(ss.length:Int)+1 -(i:Int):=by rw [IntKind.wrap_i64];omega
 rw [←hW1] at hrz
 clear ho hfin hv hinf hz0 hz2 hxs hvl hdl htl hold hG hzs hzl hrow hN hNf hO hW1 hgw hvw
 go_enter Tryz.func202,Tryz.ntmps202
 go_wp2_with (first
  |(at_builtin;refine Lib.wpList_append_run _ rfl _ _ _ _ rfl _ _ rfl rfl _ _ (hrz _) ?_)
  |(at_builtin;refine wpList_copy_known _ rfl _ _ 25 25 rfl _ _ rfl rfl (hcpA _ _) ?_))
 go_region_law_o (refine step_copy_known rfl _ _ 25 25 rfl (.slice (some ⟨w.heap.size,(i+1) *2,none⟩) (ss.length+1 -(i+1)) (G -(i+1))) (.slice (some ⟨g,i *2,none⟩) (ss.length -i) (cap -i)) (by simp [Act.eval,Act.put]) (by simp [Act.eval,Act.put]) (by rw [←hW2];exact hcpB 3 (G -(i+1)) (cap -i)) ?_)
 go_wp2
 go_ret
 rw [←hW2]
 exact ⟨G,rfl,HF.out⟩
theorem insertPin_any (P:Value) (i:Nat) (ss:List Pd) (x:Pd) (vb:Nat) (w:World) (base:Nat) (ho:w.ownsRow base 134 2 P ss.length (rowC pC ss)) (hl:ss.length<=600) (hi:i<=ss.length) (hbase:base<=w.heap.size) (hvb:P.ownBlock≠some vb) (hv:w.heap[vb]?=some (.cells #[.string x.name,.string x.sum] 134 (0,0))):
 Calls Tryz.prog 202 #[P,.int .i64 i,.slice (some ⟨vb,0,none⟩) 1 1] w fun e w'=>∃P',e=.returned P'/\w'.ownsRow base 134 2 P' (ss.length+1) (rowC pC (ss.take i++[x]++ss.drop i))/\w.grownBy w' P.ownBlock/\(P'.ownBlock=P.ownBlock∨P'.ownBlock=some w.heap.size):=by
 rcases Nat.lt_or_ge i ss.length with h|h
 ·rcases ho.2 with ⟨e,hn⟩|⟨g,cap,cur,e,hb,hg,h1,h2,h3,h4⟩
  ·omega
  ·subst e
   rcases Nat.lt_or_ge cap (ss.length+1) with hc|hc
   ·refine Calls.mono (insertPin_grow g cap i ss x vb w base ho hl h hc hbase hv) ?_
    rintro e w' ⟨G,rfl,q1,q2⟩
    exact ⟨_,rfl,q1,⟨q2.os,q2.tape,q2.output,q2.size,fun b hb _=>q2.block b hb (by simp)⟩,.inr rfl⟩
   ·refine Calls.mono (insertPin_shift g cap i ss x vb w base ho hl h hc (fun e=>hvb (by rw [e];rfl)) hv) ?_
    rintro e w' ⟨rfl,q1,q2⟩
    exact ⟨_,rfl,q1,q2,.inl rfl⟩
 ·obtain rfl:i=ss.length:=by omega
  rw [List.take_length,List.drop_length,List.append_nil]
  exact insertPin_end P ss x vb w base ho hl hbase hv
end Go.Proofs.YtpekbmegopfhfaaGreatDoor
