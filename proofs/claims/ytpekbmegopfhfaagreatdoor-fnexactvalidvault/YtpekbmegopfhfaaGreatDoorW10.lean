import Derived.Test.YtpekbmegopfhfaaGreatDoorW09
import Derived.Test.YtpekbmegopfhfaaGreatDoorW08
namespace Go.Proofs.YtpekbmegopfhfaaGreatDoor
open Go.ChangeShapes Go.WideShapes Go.ChangeAt Go.RowKit
def NS (w:World) (b:Nat):Prop:=∀cur fz,w.heap[b]?≠some (.cells cur 9 fz)
theorem RefV.move {w w':World} {base:Nat} {U V V':List Nat} {a:Option Addr} {ss:List ByteArray} (h:RefV w base V a ss) (ht:Tn U w w') (hU:∀b∈U,b∈V∨(base<=b/\NS w b)) (hV:∀b∈V',b∈V∨w.heap.size<=b):RefV w' base V' a ss:=by
 rcases h with h|⟨b,off,ha,hb,hv,hx,hc⟩
 ·exact .inl h
 ·have hnu:b∉U:=fun e=>by
   rcases hU b e with e|⟨e1,e2⟩
   ·exact hv e
   ·rcases hx with hx|⟨cur,fz,hx⟩
    ·omega
    ·exact e2 cur fz hx
  have hbb:=ht.block b hb hnu
  refine .inr ⟨b,off,ha,Nat.lt_of_lt_of_le hb ht.size,fun e=> ?_,(by rw [hbb];exact hx),fun i s hs=>(World.cell?_of_block (a:=⟨b,off+i,none⟩) hbb).trans (hc i s hs)⟩
  rcases hV b e with e|e
  ·exact hv e
  ·omega
theorem HoldsV.move {w w':World} {base:Nat} {U V V':List Nat} {wd:Int} {ks:List Kd} {f:Lit->Option Value} (h:HoldsV w base V wd ks f) (ht:Tn U w w') (hU:∀b∈U,b∈V∨(base<=b/\NS w b)) (hV:∀b∈V',b∈V∨w.heap.size<=b):HoldsV w' base V' wd ks f:=by
 intro s hs
 rcases h s hs with h|⟨u,ra,rc,h1,h2,h3,h4⟩
 ·exact .inl h
 ·exact .inr ⟨u,ra,rc,h1,h2,h3,h4.move ht hU hV⟩
structure DU (w:World) (base d m:Nat) (O P L:Value) (wd now given births:Int) (ks:List Kd) (ps:List Pd) (ls:List Ld):Prop where
 dr:Dr w base d m O P L wd now given births ks ps ls
variable {w w':World} {base d m:Nat} {O P L:Value} {wd now given births:Int} {ks:List Kd} {ps:List Pd} {ls:List Ld}
theorem DU.lo (h:DU w base d m O P L wd now given births ks ps ls):base<=w.heap.size:=by
 have:=h.dr.bd;have:=h.dr.box.lt;omega
theorem DU.turn {V:List Nat} (h:DU w base d m O P L wd now given births ks ps ls) (ht:Tn V w w') (hV:∀b∈V,base<=b/\b∉vB d m O P L/\NS w b):DU w' base d m O P L wd now given births ks ps ls:=by
 have hlt:=h.dr.lts
 have hs:∀b∈vB d m O P L,w'.heap[b]?=w.heap[b]?:=fun b hb=>ht.block b (hlt b hb) (fun e=>(hV b e).2.1 hb)
 obtain ⟨n,f,h1,h2,h3⟩:=h.dr.map
 have h:=h.dr
 exact ⟨⟨CellsAt.same h.box (hs d (by simp [vB])),⟨n,f,h1,KMap.same h2 (hs m (by simp [vB])),h3.move ht (fun b hb=> .inr ⟨(hV b hb).1,(hV b hb).2.2⟩) (fun b hb=> .inl hb)⟩,own_same h.ord (fun g hg=>hs g (by simp [vB,hg])),own_same h.pin (fun g hg=>hs g (by simp [vB,hg])),own_same h.lea (fun g hg=>hs g (by simp [vB,hg])),h.bd,h.bm,h.ap⟩⟩
theorem DU.below (h:DU w base d m O P L wd now given births ks ps ls) (hb:Below w.heap.size w w'):DU w' base d m O P L wd now given births ks ps ls:=
 h.turn (V:=[]) (Tn.of hb) (by simp)
theorem ap_newL {d m n:Nat} {O P L L':Option Nat} (h:(d::m::(O.toList++(P.toList++L.toList))).Nodup) (hlt:∀b∈d::m::(O.toList++(P.toList++L.toList)),b<n) (hL:L'=L∨∃g,L'=some g/\n<=g):(d::m::(O.toList++(P.toList++L'.toList))).Nodup:=by
 rcases hL with rfl|⟨g,rfl,hg⟩
 ·exact h
 ·cases O<;>cases P<;>cases L<;>simp_all<;>grind
theorem ap_newP {d m n:Nat} {O P L P':Option Nat} (h:(d::m::(O.toList++(P.toList++L.toList))).Nodup) (hlt:∀b∈d::m::(O.toList++(P.toList++L.toList)),b<n) (hL:P'=P∨∃g,P'=some g/\n<=g):(d::m::(O.toList++(P'.toList++L.toList))).Nodup:=by
 rcases hL with rfl|⟨g,rfl,hg⟩
 ·exact h
 ·cases O<;>cases P<;>cases L<;>simp_all<;>grind
theorem ap_parts {d m:Nat} {O P L:Option Nat} (h:(d::m::(O.toList++(P.toList++L.toList))).Nodup):d≠m/\(∀g,O=some g->g≠d/\g≠m/\P≠some g/\L≠some g)/\(∀g,P=some g->g≠d/\g≠m/\L≠some g)/\(∀g,L=some g->g≠d/\g≠m):=by
 cases O<;>cases P<;>cases L<;>simp_all<;>grind
theorem DU.newL (h:DU w base d m O P L wd now given births ks ps ls) (ht:Tn (d::L.ownBlock.toList) w w') {L':Value} {ls':List Ld} {now' given':Int} (hbox:CellsAt w' d [.int .i64 wd,.map (some m),.int .i64 now',.int .i64 given',.int .i64 births,O,P,L']) (hl:w'.ownsRow base 137 3 L' ls'.length (rowC lC ls')) (hb:L'.ownBlock=L.ownBlock∨∃g,L'.ownBlock=some g/\w.heap.size<=g):DU w' base d m O P L' wd now' given' births ks ps ls':=by
 obtain ⟨a1,a2,a3,a4⟩:=ap_parts h.dr.ap
 obtain ⟨n,f,m1,m2,m3⟩:=h.dr.map
 have hU:∀b∈d::L.ownBlock.toList,b∈vB d m O P L:=by
  intro b hb
  unfold vB
  rcases List.mem_cons.1 hb with rfl|hb
  ·simp
  ·simp only [List.mem_cons,List.mem_append]
   exact .inr (.inr (.inr (.inr hb)))
 have hV:∀b∈vB d m O P L',b∈vB d m O P L∨w.heap.size<=b:=by
  intro b hb'
  unfold vB at hb' ⊢
  simp only [List.mem_cons,List.mem_append] at hb' ⊢
  rcases hb' with e|e|e|e|e
  ·exact .inl (.inl e)
  ·exact .inl (.inr (.inl e))
  ·exact .inl (.inr (.inr (.inl e)))
  ·exact .inl (.inr (.inr (.inr (.inl e))))
  ·rcases hb with hb|⟨g,hg,hgs⟩
   ·rw [hb] at e
    exact .inl (.inr (.inr (.inr (.inr e))))
   ·rw [hg] at e
    simp at e
    exact .inr (by omega)
 refine ⟨⟨hbox,⟨n,f,m1,KMap.same m2 (ht.block m m2.lt (fun e=> ?_)),m3.move ht (fun b hb=> .inl (hU b hb)) hV⟩,own_same h.dr.ord (fun g hg=>ht.block g (own_lt h.dr.ord hg).2 (fun e=> ?_)),own_same h.dr.pin (fun g hg=>ht.block g (own_lt h.dr.pin hg).2 (fun e=> ?_)),hl,h.dr.bd,h.dr.bm,ap_newL h.dr.ap h.dr.lts hb⟩⟩
 ·rcases List.mem_cons.1 e with e|e
  ·exact a1 e.symm
  ·exact (a4 m (by simpa using e)).2 rfl
 ·rcases List.mem_cons.1 e with e|e
  ·exact (a2 g hg).1 e
  ·exact (a2 g hg).2.2.2 (by simpa using e)
 ·rcases List.mem_cons.1 e with e|e
  ·exact (a3 g hg).1 e
  ·exact (a3 g hg).2.2 (by simpa using e)
theorem DU.newP (h:DU w base d m O P L wd now given births ks ps ls) (ht:Tn (d::P.ownBlock.toList) w w') {P':Value} {ps':List Pd} (hbox:CellsAt w' d [.int .i64 wd,.map (some m),.int .i64 now,.int .i64 given,.int .i64 births,O,P',L]) (hl:w'.ownsRow base 134 2 P' ps'.length (rowC pC ps')) (hb:P'.ownBlock=P.ownBlock∨∃g,P'.ownBlock=some g/\w.heap.size<=g):DU w' base d m O P' L wd now given births ks ps' ls:=by
 obtain ⟨a1,a2,a3,a4⟩:=ap_parts h.dr.ap
 obtain ⟨n,f,m1,m2,m3⟩:=h.dr.map
 have hU:∀b∈d::P.ownBlock.toList,b∈vB d m O P L:=by
  intro b hb
  unfold vB
  rcases List.mem_cons.1 hb with rfl|hb
  ·simp
  ·simp only [List.mem_cons,List.mem_append]
   exact .inr (.inr (.inr (.inl hb)))
 have hV:∀b∈vB d m O P' L,b∈vB d m O P L∨w.heap.size<=b:=by
  intro b hb'
  unfold vB at hb' ⊢
  simp only [List.mem_cons,List.mem_append] at hb' ⊢
  rcases hb' with e|e|e|e|e
  ·exact .inl (.inl e)
  ·exact .inl (.inr (.inl e))
  ·exact .inl (.inr (.inr (.inl e)))
  ·rcases hb with hb|⟨g,hg,hgs⟩
   ·rw [hb] at e
    exact .inl (.inr (.inr (.inr (.inl e))))
   ·rw [hg] at e
    simp at e
    exact .inr (by omega)
  ·exact .inl (.inr (.inr (.inr (.inr e))))
 refine ⟨⟨hbox,⟨n,f,m1,KMap.same m2 (ht.block m m2.lt (fun e=> ?_)),m3.move ht (fun b hb=> .inl (hU b hb)) hV⟩,own_same h.dr.ord (fun g hg=>ht.block g (own_lt h.dr.ord hg).2 (fun e=> ?_)),hl,own_same h.dr.lea (fun g hg=>ht.block g (own_lt h.dr.lea hg).2 (fun e=> ?_)),h.dr.bd,h.dr.bm,ap_newP h.dr.ap h.dr.lts hb⟩⟩
 ·rcases List.mem_cons.1 e with e|e
  ·exact a1 e.symm
  ·exact (a3 m (by simpa using e)).2.1 rfl
 ·rcases List.mem_cons.1 e with e|e
  ·exact (a2 g hg).1 e
  ·exact (a2 g hg).2.2.1 (by simpa using e)
 ·rcases List.mem_cons.1 e with e|e
  ·exact (a4 g hg).1 e
  ·exact (a3 g (by simpa using e)).2.2 hg
theorem rowC_append {A:Type} (c:A->List Value) (xs ys:List A):rowC c (xs++ys)=rowC c xs++rowC c ys:=by
 unfold rowC
 simp
theorem wrap_sum {a b:Int} (ha:0<=a) (ha1:a<=1000000000) (hb:0<=b) (hb1:b<=1000000000):IntKind.i64.wrap (a+b)=a+b:=by
 simp [IntKind.wrap,IntKind.bits,IntKind.signed]
 omega
theorem lpush (w:World) (base:Nat) (v:Value) (ls:List Ld) (ho:w.ownsRow base 137 3 v ls.length (rowC lC ls)) (x:Ld) (hn:ls.length<=1000000) (hbase:base<=w.heap.size) (ty:TypeId):
 ∃g cap w',(Builtin.append_ #[26,26] ty #[v,.slice (some ⟨w.heap.size,0,none⟩) 1 1]).run Tryz.prog (w.alloc (.cells #[.int .i64 x.num,.string x.sum,.int .i64 x.til] 137))=.ok (.slice (some ⟨g,0,none⟩) (ls.length+1) cap) w'/\w'.ownsRow base 137 3 (.slice (some ⟨g,0,none⟩) (ls.length+1) cap) (ls++[x]).length (rowC lC (ls++[x]))/\w.grownBy w' v.ownBlock/\(v.ownBlock=some g∨g=w.heap.size+1):=by
 obtain ⟨i0,hi,hz0,hz1,hz2⟩:=info_parts Tryz.infoLease
 have ho':=own_below ho ((Below.refl _ _).alloc (Nat.le_refl _) (.cells #[.int .i64 x.num,.string x.sum,.int .i64 x.til] 137))
 have hc:∀j u,(rowC lC [x])[j]?=some u->(w.alloc (.cells #[.int .i64 x.num,.string x.sum,.int .i64 x.til] 137)).cell? ((⟨w.heap.size,0,none⟩:Addr).add j)=some u:=by
  intro j u hu
  rw [Go.WideShapes.add_plain,Nat.zero_add]
  exact (CellsAt.new w [.int .i64 x.num,.string x.sum,.int .i64 x.til] 137 j u (by simpa [rowC,lC] using hu)).1
 obtain ⟨v',w',hr,h2,h3,_,h5⟩:=run_append_own_at (P:=Tryz.prog) (w.alloc (.cells #[.int .i64 x.num,.string x.sum,.int .i64 x.til] 137)) base 26 ty 137 i0 _ 3 32 Tryz.underlying26 hi hz0 hz1 hz2 rfl (by decide) v ls.length (rowC lC ls) ho' ⟨w.heap.size,0,none⟩ 1 1 (rowC lC [x]) (by simp [rowC,lC]) hc (by intro u hu;simp [rowC,lC] at hu;rcases hu with rfl|rfl|rfl<;>rfl) (by unfold maxLen;omega) (by omega) (by simp;omega)
 obtain ⟨g,cap,rfl,_,_⟩:=own_form h2 (fun e=>by subst e;rcases h2.2 with ⟨_,hn⟩|⟨_,_,_,e,_⟩<;>first|omega|cases e)
 refine ⟨g,cap,w',hr,?_,(World.grownBy_alloc w _ _).trans h3,?_⟩
 ·rw [rowC_append,List.length_append]
  exact h2
 ·rcases h5 with h5|h5
  ·exact .inl h5.symm
  ·right
   simpa [Value.ownBlock] using h5
set_option maxRecDepth 20000 in
set_option maxHeartbeats 4000000 in
theorem lend_yes (base d m:Nat) (O P L:Value) (wd now given births:Int) (ks:List Kd) (ps:List Pd) (ls:List Ld) (s:ByteArray) (ticks:Int) (w:World) (h:DU w base d m O P L wd now given births ks ps ls) (hsz:∀k∈ks,(k.sum.size:Int)=wd) (hth:There ks s) (hl:ls.length<200) (hg0:0<=given) (hg1:given<1000000000) (hn0:0<=now) (hn1:now<=1000000000) (ht0:0<=ticks) (ht1:ticks<=1000000000):
 Calls Tryz.prog 169 #[.pointer (some ⟨d,0,none⟩),.string s,.int .i64 ticks] w fun e w'=>e=.returned (.int .i64 (given+1))/\∃L',DU w' base d m O P L' wd now (given+1) births ks ps (ls++[⟨given+1,s,now+ticks⟩])/\Tn (d::L.ownBlock.toList) w w':=by
 have HN:Hid _:=need_yes base d m O P L wd now given births ks ps ls s w h.dr hsz hth
 have HD:Hid (DU w base d m O P L wd now given births ks ps ls):=h
 have hll:((ls.length:Int)==200)=false:=by simp;omega
 have hgg:(given==1000000000)=false:=by simp;omega
 clear h hsz hth
 go_enter Tryz.func169,Tryz.ntmps169
 go_wp2_with fail
 refine Calls.mono HN.out ?_
 rintro e w1 ⟨rfl,hb1⟩
 have hD1:=HD.out.below hb1
 obtain ⟨la,lcp,hLe⟩:=own_val hD1.dr.lea
 subst hLe
 obtain ⟨c2,_⟩:=hD1.dr.box 2 _ rfl
 obtain ⟨c3,f3⟩:=hD1.dr.box 3 _ rfl
 obtain ⟨c7,_⟩:=hD1.dr.box 7 _ rfl
 obtain ⟨X,hX⟩:∃X,X=w1.setCell ⟨d,3,none⟩ (.int .i64 (given+1)):=⟨_,rfl⟩
 have hTX:Tn [d] w1 X:=by rw [hX];exact tn1 _ _ _ _
 have hBX:CellsAt X d [.int .i64 wd,.map (some m),.int .i64 now,.int .i64 (given+1),.int .i64 births,O,P,.slice la ls.length lcp]:=by rw [hX];exact hD1.dr.box.set 3 _
 have hLn:∀g,(Value.slice la ls.length lcp).ownBlock=some g->g≠d:=fun g hg=>((ap_parts hD1.dr.ap).2.2.2 g hg).1
 have hlX:X.ownsRow base 137 3 (.slice la ls.length lcp) ls.length (rowC lC ls):=own_same hD1.dr.lea (fun g hg=>hTX.block g (own_lt hD1.dr.lea hg).2 (by simp;exact hLn g hg))
 have hdX:d<X.heap.size:=hBX.lt
 have hloX:base<=X.heap.size:=Nat.le_trans hD1.lo hTX.size
 obtain ⟨g8,cap8,w8,hr8,ho8,hg8,hk8⟩:=lpush X.drew base _ ls (own_below hlX ((Below.refl _ _).drew)) ⟨given+1,s,now+ticks⟩ (by omega) hloX 26
 dsimp only at hr8
 replace hr8:(Builtin.append_ #[26,26] 26 #[.slice la ls.length lcp,.slice (some ⟨X.heap.size,0,none⟩) 1 1]).run Tryz.prog (X.alloc (.cells #[.int .i64 (given+1),.string s,.int .i64 (now+ticks)] 137)).drew=.ok (.slice (some ⟨g8,0,none⟩) (ls.length+1) cap8) w8:=hr8
 have hwr:IntKind.i64.wrap (now+ticks)=now+ticks:=wrap_sum hn0 hn1 ht0 ht1
 have hbA:Below X.heap.size X (X.drew.alloc (.cells #[.int .i64 (given+1),.string s,.int .i64 (now+ticks)] 137)):=(Below.refl _ _).drew.alloc (Nat.le_refl _) _
 have hBA:=hBX.below hbA
 have HX:Hid _:=hX
 have H1:Hid (DU w1 base d m O P (.slice la ls.length lcp) wd now given births ks ps ls):=hD1
 have HT1:Hid (Below w.heap.size w w1):=hb1
 have hB8:CellsAt w8 d [.int .i64 wd,.map (some m),.int .i64 now,.int .i64 (given+1),.int .i64 births,O,P,.slice la ls.length lcp]:=CellsAt.same hBX (hg8.block d (by simpa using hdX) (fun e=>hLn d e.symm rfl))
 have H8:Hid (w8.ownsRow base 137 3 (.slice (some ⟨g8,0,none⟩) (ls.length+1) cap8) (ls++[(⟨given+1,s,now+ticks⟩:Ld)]).length (rowC lC (ls++[(⟨given+1,s,now+ticks⟩:Ld)]))/\X.drew.grownBy w8 (Value.slice la ls.length lcp).ownBlock/\((Value.slice la ls.length lcp).ownBlock=some g8∨g8=X.drew.heap.size+1)):=⟨ho8,hg8,hk8⟩
 have HB8:Hid (CellsAt w8 d [.int .i64 wd,.map (some m),.int .i64 now,.int .i64 (given+1),.int .i64 births,O,P,.slice la ls.length lcp]):=hB8
 have HTX:Hid (Tn [d] w1 X):=hTX
 have HdX:Hid (d<X.heap.size):=hdX
 clear hX hD1 hb1 HN HD hTX hlX ho8 hg8 hk8
 go_upto_region 5 with fail
 rw [←HX.out]
 clear HX c2 c3 c7 f3
 obtain ⟨c2,_⟩:=hBX 2 _ rfl
 obtain ⟨c3,_⟩:=hBX 3 _ rfl
 obtain ⟨c7,_⟩:=hBX 7 _ rfl
 obtain ⟨a2,_⟩:=hBA 2 _ rfl
 obtain ⟨a3,_⟩:=hBA 3 _ rfl
 obtain ⟨a7,_⟩:=hBA 7 _ rfl
 obtain ⟨e7,f7⟩:=hB8 7 _ rfl
 clear hBX hBA hB8 hbA
 go_region_law (first
  |(refine step_append_run (by rfl) (.tmp 36) (.tmp 49) 26 26 (by rfl) (by rfl) (by rfl) hr8 ?_))
 all_goals
  clear hr8 c2 c3 c7 a2 a3 a7
  have z8:=HB8.out.set 7 (.slice (some ⟨g8,0,none⟩) (ls.length+1) cap8)
  have z3:=(z8 3 _ rfl).1
  have z7:X.heap.size<=w8.heap.size:=by have:=H8.out.2.1.size;simpa using this
  have HZ8:Hid (CellsAt (w8.setCell ⟨d,7,none⟩ (.slice (some ⟨g8,0,none⟩) (ls.length+1) cap8)) d [.int .i64 wd,.map (some m),.int .i64 now,.int .i64 (given+1),.int .i64 births,O,P,.slice (some ⟨g8,0,none⟩) (ls.length+1) cap8]):=z8
  clear z8
  have hk:∃L',DU (w8.setCell ⟨d,7,none⟩ (.slice (some ⟨g8,0,none⟩) (ls.length+1) cap8)) base d m O P L' wd now (given+1) births ks ps (ls++[(⟨given+1,s,now+ticks⟩:Ld)])/\Tn (d::(Value.slice la ls.length lcp).ownBlock.toList) w (w8.setCell ⟨d,7,none⟩ (.slice (some ⟨g8,0,none⟩) (ls.length+1) cap8)):=by
   have t1:Tn (d::(Value.slice la ls.length lcp).ownBlock.toList) w1 (w8.setCell ⟨d,7,none⟩ (.slice (some ⟨g8,0,none⟩) (ls.length+1) cap8)):=
    ((HTX.out.mono (by simp)).trans ((Tn.of ((Below.refl _ _).drew)).trans ((tn_grown H8.out.2.1).mono (fun b hb=>List.mem_cons_of_mem _ hb)))).trans ((tn1 w8 d 7 _).mono (by simp))
   have hgd:∀g,(Value.slice (some ⟨g8,0,none⟩) (ls.length+1) cap8).ownBlock=some g->g≠d:=fun g hg=>by
    obtain rfl:g8=g:=by simpa [Value.ownBlock] using hg
    rcases H8.out.2.2 with e|e
    ·exact hLn g8 e
    ·have h1:g8=X.heap.size+1:=e
     have h2:=HdX.out
     omega
   have hb8:(Value.slice (some ⟨g8,0,none⟩) (ls.length+1) cap8).ownBlock=(Value.slice la ls.length lcp).ownBlock∨∃g,(Value.slice (some ⟨g8,0,none⟩) (ls.length+1) cap8).ownBlock=some g/\w1.heap.size<=g:=by
    rcases H8.out.2.2 with e|e
    ·exact .inl e.symm
    ·exact .inr ⟨g8,rfl,by have h1:g8=X.heap.size+1:=e;have:=HTX.out.size;omega⟩
   exact ⟨_,H1.out.newL t1 HZ8.out (own_set H8.out.1 hgd 7 _) hb8,(Tn.of HT1.out).trans t1⟩
  have HK:Hid _:=hk
  clear hk
  go_wp2
  go_ret
  exact ⟨rfl,HK.out⟩
end Go.Proofs.YtpekbmegopfhfaaGreatDoor
namespace Go.Proofs.YtpekbmegopfhfaaGreatDoor
open Go.ChangeShapes Go.WideShapes Go.ChangeAt Go.RowKit
theorem own_cutR {A:Type} {c:A->List Value} {n:Nat} {e:TypeId} (hn:∀x,(c x).length=n) {w:World} {base g cap:Nat} {ss:List A} (h:w.ownsRow base e n (.slice (some ⟨g,0,none⟩) ss.length cap) ss.length (rowC c ss)) (i:Nat) (hi:i<=ss.length):w.ownsRow base e n (.slice (some ⟨g,0,none⟩) i cap) i (rowC c (ss.take i)):=by
 refine ⟨by rw [row_len hn,List.length_take];congr 1;omega,?_⟩
 rcases h.2 with ⟨e,_⟩|⟨g',cap',cur,e,hb,hg,h1,h2,h3,h4⟩
 ·cases e
 ·cases e
  refine .inr ⟨g,cap,cur,rfl,hb,hg,by omega,h2,h3,?_⟩
  rw [←row_take hn ss i hi,←h4,List.take_take]
  congr 1
  exact (Nat.min_eq_left (Nat.mul_le_mul_right n hi)).symm
theorem zeroPin (w:World):(zeroValue 134).run Tryz.prog w=.ok (.agg #[.string ⟨#[]⟩,.string ⟨#[]⟩]) w:=by kernel_rfl
theorem run_clear_Pin (w:World) (ty:TypeId) (b o c:Nat) (hc:∀j,j<2->(w.cell? ⟨b,o+j,none⟩).isSome=true) (hf:∀j,j<2->w.frozen? ⟨b,o+j,none⟩=false):
 (Builtin.clear_ #[25] ty #[.slice (some ⟨b,o,none⟩) 1 c]).run Tryz.prog w=.ok (.tuple #[]) (w.setCells b o [.string ⟨#[]⟩,.string ⟨#[]⟩]):=by
 have hzc:(Builtin.zeroCells (Value.agg #[.string ⟨#[]⟩,.string ⟨#[]⟩]).cells 1).toList=[.string ⟨#[]⟩,.string ⟨#[]⟩]:=by kernel_rfl
 have hst:=run_storeCells_cells (P:=Tryz.prog) b o [.string ⟨#[]⟩,.string ⟨#[]⟩] 0 w (by simpa using hc) (by simpa using hf) (by intro v hv';simp at hv';rcases hv' with rfl|rfl<;>rfl)
 simp only [Nat.add_zero] at hst
 have hzk:=zeroPin
 simp [Builtin.clear_,run_underlying Tryz.underlying25,hzk,hzc,hst]
set_option maxRecDepth 20000 in
set_option maxHeartbeats 4000000 in
theorem deletePin_any (g cap i:Nat) (ss:List Pd) (w:World) (base:Nat) (ho:w.ownsRow base 134 2 (.slice (some ⟨g,0,none⟩) ss.length cap) ss.length (rowC pC ss)) (hl:ss.length<=600) (hi:i<ss.length):
 Calls Tryz.prog 203 #[.slice (some ⟨g,0,none⟩) ss.length cap,.int .i64 i,.int .i64 ((i:Int)+1)] w fun e w'=>e=.returned (.slice (some ⟨g,0,none⟩) (ss.length -1) cap)/\w'.ownsRow base 134 2 (.slice (some ⟨g,0,none⟩) (ss.length -1) cap) (ss.length -1) (rowC pC (ss.eraseIdx i))/\w.grownBy w' (some g):=by
 obtain ⟨i0,hinf,hz0,hz1,hz2⟩:=info_parts Tryz.infoPin
 have hcap:ss.length<=cap/\cap<=maxLen:=by
  rcases ho.2 with ⟨e,_⟩|⟨g',cap',cur,e,hb,hg,h1,h2,h3,h4⟩
  ·cases e
  ·cases e;exact ⟨h1,h2⟩
 obtain ⟨hc1,hc2⟩:=hcap
 unfold maxLen at hc2
 have hcut:=own_cutR pC_len ho i (by omega)
 obtain ⟨A,hA,hnews⟩:∃A,(if cap=i+1 then some (⟨g,0,none⟩:Addr) else some ⟨g,(i+1) *2,none⟩)=some A/\∀j u,(rowC pC (ss.drop (i+1)))[j]?=some u->w.drew.cell? (A.add j)=some u:=by
  by_cases h:cap=i+1
  ·refine ⟨⟨g,0,none⟩,by rw [if_pos h],fun j u hu=> ?_⟩
   rw [List.drop_of_length_le (by omega)] at hu
   simp [rowC] at hu
  ·refine ⟨⟨g,(i+1) *2,none⟩,by rw [if_neg h],fun j u hu=> ?_⟩
   rw [Go.WideShapes.add_plain]
   rw [←row_drop pC_len ss (i+1) (by omega),List.getElem?_drop] at hu
   have hlt:=(List.getElem?_eq_some_iff.1 hu).1
   rw [row_len pC_len] at hlt
   exact (ho.cellAt _ (by omega)).trans hu
 obtain ⟨w1,hr,ho1,hg1⟩:=run_append_fits (P:=Tryz.prog) w.drew base 25 25 134 i0 2 Tryz.underlying25 hinf hz1 g i cap (rowC pC (ss.take i)) hcut A (ss.length -(i+1)) (cap -(i+1)) (rowC pC (ss.drop (i+1))) (by rw [row_len pC_len,List.length_drop]) hnews (oneP _) (by omega)
 rw [←row_append,show i+(ss.length -(i+1))=ss.length -1 by omega] at ho1
 rw [show i+(ss.length -(i+1))=ss.length -1 by omega] at hr
 have hee:ss.take i++ss.drop (i+1)=ss.eraseIdx i:=(List.eraseIdx_eq_take_drop_succ ss i).symm
 rw [hee] at ho1
 have HO:Hid _:=And.intro ho1 hg1
 clear hnews ho1 hcut hee
 go_enter Tryz.func203,Tryz.ntmps203
 have hi1:¬((i:Int)==(i:Int)+1)=true:=by simp;omega
 have hic:i<=cap:=by omega
 have hp0:(0:Int)<=(i:Int)+1:=by omega
 have hp1:(i:Int)+1<=(ss.length:Int):=by omega
 have hp2:((i:Int)+1).toNat=i+1:=by omega
 go_upto_region 5 with fail
 go_region_law (first
  |(refine step_append_run (by rfl) (.tmp 22) (.tmp 25) 25 25 (by rfl) (by rfl) (by simp [Act.eval,Act.put]) hr ?_))
 all_goals
  have hf1:∀j,j<2->(w1.cell? ⟨g,(ss.length -1) *2+j,none⟩).isSome=true/\w1.frozen? ⟨g,(ss.length -1) *2+j,none⟩=false:=fun j hj=>by
   obtain ⟨ho1,hg1⟩:=HO.out
   rcases ho1.2 with ⟨e,_⟩|⟨g',cap',cur,e,hb,hg,h1,h2,h3,h4⟩
   ·cases e
   ·cases e
    constructor
    ·simp only [World.cell?,hg]
     rw [Array.getElem?_eq_getElem (by omega)]
     rfl
    ·exact ho1.frozenAt _
  have hclr:=run_clear_Pin w1 0 g ((ss.length -1) *2) (cap -(ss.length -1)) (fun j hj=>(hf1 j hj).1) (fun j hj=>(hf1 j hj).2)
  have e1:ss.length -(ss.length -1)=1:=by omega
  have e2:¬cap=ss.length -1:=by omega
  have e3:ss.length -1<=ss.length:=by omega
  go_wp2
  go_ret
  obtain ⟨ho1,hg1⟩:=HO.out
  exact ⟨rfl,own_past _ _ _ ho1 (Nat.le_refl _),grown_trans (grown_undrew hg1) (grown_setC g _ _ _)⟩
theorem zeroLease (w:World):(zeroValue 137).run Tryz.prog w=.ok (.agg #[.int .i64 0,.string ⟨#[]⟩,.int .i64 0]) w:=by kernel_rfl
theorem run_clear_Lease (w:World) (ty:TypeId) (b o c:Nat) (hc:∀j,j<3->(w.cell? ⟨b,o+j,none⟩).isSome=true) (hf:∀j,j<3->w.frozen? ⟨b,o+j,none⟩=false):
 (Builtin.clear_ #[26] ty #[.slice (some ⟨b,o,none⟩) 1 c]).run Tryz.prog w=.ok (.tuple #[]) (w.setCells b o [.int .i64 0,.string ⟨#[]⟩,.int .i64 0]):=by
 have hzc:(Builtin.zeroCells (Value.agg #[.int .i64 0,.string ⟨#[]⟩,.int .i64 0]).cells 1).toList=[.int .i64 0,.string ⟨#[]⟩,.int .i64 0]:=by kernel_rfl
 have hst:=run_storeCells_cells (P:=Tryz.prog) b o [.int .i64 0,.string ⟨#[]⟩,.int .i64 0] 0 w (by simpa using hc) (by simpa using hf) (by intro v hv';simp at hv';rcases hv' with rfl|rfl|rfl<;>rfl)
 simp only [Nat.add_zero] at hst
 have hzk:=zeroLease
 simp [Builtin.clear_,run_underlying Tryz.underlying26,hzk,hzc,hst]
set_option maxRecDepth 20000 in
set_option maxHeartbeats 4000000 in
theorem deleteLease_any (g cap i:Nat) (ss:List Ld) (w:World) (base:Nat) (ho:w.ownsRow base 137 3 (.slice (some ⟨g,0,none⟩) ss.length cap) ss.length (rowC lC ss)) (hl:ss.length<=600) (hi:i<ss.length):
 Calls Tryz.prog 207 #[.slice (some ⟨g,0,none⟩) ss.length cap,.int .i64 i,.int .i64 ((i:Int)+1)] w fun e w'=>e=.returned (.slice (some ⟨g,0,none⟩) (ss.length -1) cap)/\w'.ownsRow base 137 3 (.slice (some ⟨g,0,none⟩) (ss.length -1) cap) (ss.length -1) (rowC lC (ss.eraseIdx i))/\w.grownBy w' (some g):=by
 obtain ⟨i0,hinf,hz0,hz1,hz2⟩:=info_parts Tryz.infoLease
 have hcap:ss.length<=cap/\cap<=maxLen:=by
  rcases ho.2 with ⟨e,_⟩|⟨g',cap',cur,e,hb,hg,h1,h2,h3,h4⟩
  ·cases e
  ·cases e;exact ⟨h1,h2⟩
 obtain ⟨hc1,hc2⟩:=hcap
 unfold maxLen at hc2
 have hcut:=own_cutR lC_len ho i (by omega)
 obtain ⟨A,hA,hnews⟩:∃A,(if cap=i+1 then some (⟨g,0,none⟩:Addr) else some ⟨g,(i+1) *3,none⟩)=some A/\∀j u,(rowC lC (ss.drop (i+1)))[j]?=some u->w.drew.cell? (A.add j)=some u:=by
  by_cases h:cap=i+1
  ·refine ⟨⟨g,0,none⟩,by rw [if_pos h],fun j u hu=> ?_⟩
   rw [List.drop_of_length_le (by omega)] at hu
   simp [rowC] at hu
  ·refine ⟨⟨g,(i+1) *3,none⟩,by rw [if_neg h],fun j u hu=> ?_⟩
   rw [Go.WideShapes.add_plain]
   rw [←row_drop lC_len ss (i+1) (by omega),List.getElem?_drop] at hu
   have hlt:=(List.getElem?_eq_some_iff.1 hu).1
   rw [row_len lC_len] at hlt
   exact (ho.cellAt _ (by omega)).trans hu
 obtain ⟨w1,hr,ho1,hg1⟩:=run_append_fits (P:=Tryz.prog) w.drew base 26 26 137 i0 3 Tryz.underlying26 hinf hz1 g i cap (rowC lC (ss.take i)) hcut A (ss.length -(i+1)) (cap -(i+1)) (rowC lC (ss.drop (i+1))) (by rw [row_len lC_len,List.length_drop]) hnews (oneL _) (by omega)
 rw [←row_append,show i+(ss.length -(i+1))=ss.length -1 by omega] at ho1
 rw [show i+(ss.length -(i+1))=ss.length -1 by omega] at hr
 have hee:ss.take i++ss.drop (i+1)=ss.eraseIdx i:=(List.eraseIdx_eq_take_drop_succ ss i).symm
 rw [hee] at ho1
 have HO:Hid _:=And.intro ho1 hg1
 clear hnews ho1 hcut hee
 go_enter Tryz.func207,Tryz.ntmps207
 have hi1:¬((i:Int)==(i:Int)+1)=true:=by simp;omega
 have hic:i<=cap:=by omega
 have hp0:(0:Int)<=(i:Int)+1:=by omega
 have hp1:(i:Int)+1<=(ss.length:Int):=by omega
 have hp2:((i:Int)+1).toNat=i+1:=by omega
 go_upto_region 5 with fail
 go_region_law (first
  |(refine step_append_run (by rfl) (.tmp 22) (.tmp 25) 26 26 (by rfl) (by rfl) (by simp [Act.eval,Act.put]) hr ?_))
 all_goals
  have hf1:∀j,j<3->(w1.cell? ⟨g,(ss.length -1) *3+j,none⟩).isSome=true/\w1.frozen? ⟨g,(ss.length -1) *3+j,none⟩=false:=fun j hj=>by
   obtain ⟨ho1,hg1⟩:=HO.out
   rcases ho1.2 with ⟨e,_⟩|⟨g',cap',cur,e,hb,hg,h1,h2,h3,h4⟩
   ·cases e
   ·cases e
    constructor
    ·simp only [World.cell?,hg]
     rw [Array.getElem?_eq_getElem (by omega)]
     rfl
    ·exact ho1.frozenAt _
  have hclr:=run_clear_Lease w1 0 g ((ss.length -1) *3) (cap -(ss.length -1)) (fun j hj=>(hf1 j hj).1) (fun j hj=>(hf1 j hj).2)
  have e1:ss.length -(ss.length -1)=1:=by omega
  have e2:¬cap=ss.length -1:=by omega
  have e3:ss.length -1<=ss.length:=by omega
  go_wp2
  go_ret
  obtain ⟨ho1,hg1⟩:=HO.out
  exact ⟨rfl,own_past _ _ _ ho1 (Nat.le_refl _),grown_trans (grown_undrew hg1) (grown_setC g _ _ _)⟩
end Go.Proofs.YtpekbmegopfhfaaGreatDoor
namespace Go.Proofs.YtpekbmegopfhfaaGreatDoor
open Go.ChangeShapes Go.WideShapes Go.ChangeAt Go.RowKit
def cmpI (x y:Int):Int:=if x<y then -1 else if y<x then 1 else 0
theorem cmpI_neg (x y:Int):cmpI x y<0↔x<y:=by unfold cmpI;split<;>(try split)<;>omega
theorem cmpI_zero (x y:Int):cmpI x y=0↔x=y:=by unfold cmpI;split<;>(try split)<;>omega
set_option maxHeartbeats 1000000 in
theorem nanI_any (x:Int) (w:World):Calls Tryz.prog 235 #[.int .i64 x] w fun e w'=>e=.returned (.bool false)/\w'=w:=by
 have hq:(x !=x)=false:=by simp
 go_enter Tryz.func235,Tryz.ntmps235
 go_wp2
 go_ret
 exact ⟨rfl,rfl⟩
set_option maxHeartbeats 1000000 in
theorem cmpI_any (x y:Int) (w:World):Calls Tryz.prog 206 #[.int .i64 x,.int .i64 y] w fun e w'=>e=.returned (.int .i64 (cmpI x y))/\w'=w:=by
 go_enter Tryz.func206,Tryz.ntmps206
 go_wp2_with fail
 refine (nanI_any x w).mono ?_
 rintro e w1 ⟨rfl,rfl⟩
 go_wp2_with fail
 refine (nanI_any y w1).mono ?_
 rintro e w2 ⟨rfl,rfl⟩
 by_cases h1:x<y
 ·have hd:decide (x<y)=true:=by simpa using h1
  have hv:cmpI x y= -1:=by unfold cmpI;rw [if_pos h1]
  clear h1
  go_wp2
  go_ret
  exact ⟨by rw [hv];rfl,rfl⟩
 ·have hd:decide (x<y)=false:=by simpa using h1
  by_cases h2:y<x
  ·have hd2:decide (y<x)=true:=by simpa using h2
   have hv:cmpI x y=1:=by unfold cmpI;rw [if_neg h1,if_pos h2]
   clear h1 h2
   go_wp2
   go_ret
   exact ⟨by rw [hv];rfl,rfl⟩
  ·have hd2:decide (y<x)=false:=by simpa using h2
   have hv:cmpI x y=0:=by unfold cmpI;rw [if_neg h1,if_neg h2]
   clear h1 h2
   go_wp2
   go_ret
   exact ⟨by rw [hv];rfl,rfl⟩
def cmpS (x y:ByteArray):Int:=if less x y=true then -1 else if x=y then 0 else 1
theorem cmpS_neg (x y:ByteArray):cmpS x y<0↔less x y=true:=by
 unfold cmpS
 by_cases h:less x y=true
 ·rw [if_pos h];exact ⟨fun _=>h,fun _=>by omega⟩
 ·rw [if_neg h]
  refine ⟨fun e=> ?_,fun e=>absurd e h⟩
  split at e<;>omega
theorem cmpS_zero (x y:ByteArray):cmpS x y=0↔x=y:=by
 unfold cmpS
 by_cases h:less x y=true
 ·rw [if_pos h]
  refine ⟨fun e=>by omega,fun e=> ?_⟩
  rw [e,less_irrefl] at h
  cases h
 ·rw [if_neg h]
  split
  ·rename_i h2;exact ⟨fun _=>h2,fun _=>rfl⟩
  ·rename_i h2;exact ⟨fun e=>by omega,fun e=>absurd e h2⟩
set_option maxHeartbeats 1000000 in
theorem nanS_any (x:ByteArray) (w:World):Calls Tryz.prog 246 #[.string x] w fun e w'=>e=.returned (.bool false)/\w'=w:=by
 have hq:(x.toList !=x.toList)=false:=by simp
 go_enter Tryz.func246,Tryz.ntmps246
 go_wp2
 go_ret
 exact ⟨rfl,rfl⟩
set_option maxHeartbeats 1000000 in
theorem cmpS_any (x y:ByteArray) (w:World):Calls Tryz.prog 232 #[.string x,.string y] w fun e w'=>e=.returned (.int .i64 (cmpS x y))/\w'=w:=by
 go_enter Tryz.func232,Tryz.ntmps232
 go_wp2_with fail
 refine (nanS_any x w).mono ?_
 rintro e w1 ⟨rfl,rfl⟩
 go_wp2_with fail
 refine (nanS_any y w1).mono ?_
 rintro e w2 ⟨rfl,rfl⟩
 cases h1:Op.bytesLess x.toList y.toList with
 |true=>
  have HV:Hid (cmpS x y= -1):=by show _=_;unfold cmpS less;rw [if_pos h1]
  go_wp2
  go_ret
  exact ⟨by rw [HV.out];rfl,rfl⟩
 |false=>
  by_cases h2:x=y
  ·have HV:Hid (cmpS x y=0):=(cmpS_zero x y).2 h2
   have hq:(x.toList==y.toList)=true:=by rw [h2];simp
   clear h2
   go_wp2
   go_ret
   exact ⟨by rw [HV.out];rfl,rfl⟩
  ·have HV:Hid (cmpS x y=1):=by show _=_;unfold cmpS less;rw [if_neg (by rw [h1];simp),if_neg h2]
   have hq:(x.toList==y.toList)=false:=beq_ne h2
   clear h2
   go_wp2
   go_ret
   exact ⟨by rw [HV.out];rfl,rfl⟩
set_option maxHeartbeats 1000000 in
theorem give1_any (x:Ld) (n:Int) (w:World):Calls Tryz.prog 205 #[.agg #[.int .i64 x.num,.string x.sum,.int .i64 x.til],.int .i64 n] w fun e w'=>e=.returned (.int .i64 (cmpI x.num n))/\Below w.heap.size w w':=by
 have hA:∀o,Below w.heap.size w (w.alloc o):=fun o=>(Below.refl _ _).alloc (Nat.le_refl _) _
 go_enter Tryz.func205,Tryz.ntmps205
 go_wp2_with fail
 refine (cmpI_any x.num n _).mono ?_
 rintro e w1 ⟨rfl,rfl⟩
 go_wp2
 go_ret
 exact ⟨rfl,hA _⟩
set_option maxHeartbeats 1000000 in
theorem place1_any (x:Pd) (n:ByteArray) (w:World):Calls Tryz.prog 231 #[.agg #[.string x.name,.string x.sum],.string n] w fun e w'=>e=.returned (.int .i64 (cmpS x.name n))/\Below w.heap.size w w':=by
 have hA:∀o,Below w.heap.size w (w.alloc o):=fun o=>(Below.refl _ _).alloc (Nat.le_refl _) _
 go_enter Tryz.func231,Tryz.ntmps231
 go_wp2_with fail
 refine (cmpS_any x.name n _).mono ?_
 rintro e w1 ⟨rfl,rfl⟩
 go_wp2
 go_ret
 exact ⟨rfl,hA _⟩
structure PlaceN (ls:List Ld) (n:Int) (i:Nat):Prop where
 le:i<=ls.length
 lo:∀j x,j<i->ls[j]?=some x->x.num<n
 hi:∀j x,i<=j->ls[j]?=some x->n<=x.num
set_option maxRecDepth 20000 in
set_option maxHeartbeats 4000000 in
theorem searchLease_any (g cap:Nat) (ls:List Ld) (n:Int) (w:World) (base:Nat) (ho:w.ownsRow base 137 3 (.slice (some ⟨g,0,none⟩) ls.length cap) ls.length (rowC lC ls)) (hl:ls.length<=600) (hsort:ls.Pairwise (fun a b=>a.num<b.num)):
 Calls Tryz.prog 204 #[.slice (some ⟨g,0,none⟩) ls.length cap,.int .i64 n,.func (.func 205) #[] #[]] w fun e w'=>∃i:Nat,e=.returned (.tuple #[.int .i64 i,.bool (decide (∃x,ls[i]?=some x/\x.num=n))])/\PlaceN ls n i/\Below w.heap.size w w':=by
 have hgl:g<w.heap.size:=(own_lt ho rfl).2
 have HO:Hid (w.ownsRow base 137 3 (.slice (some ⟨g,0,none⟩) ls.length cap) ls.length (rowC lC ls)):=ho
 have HR:Hid (∀(X:World),Below w.heap.size w X->∀k x,ls[k]?=some x->X.cell? ⟨g,k *3,none⟩=some (.int .i64 x.num)/\X.cell? ⟨g,k *3+1,none⟩=some (.string x.sum)/\X.cell? ⟨g,k *3+2,none⟩=some (.int .i64 x.til)):=fun X hX k x hx=>by
  have h:=own_below ho hX
  have hk:=(List.getElem?_eq_some_iff.1 hx).1
  have hc:∀j,j<3->X.cell? ⟨g,k *3+j,none⟩=(lC x)[j]?:=fun j hj=>(h.cellAt (k *3+j) (by omega)).trans (row_get lC_len hx hj)
  exact ⟨by simpa [lC] using hc 0 (by decide),by simpa [lC] using hc 1 (by decide),by simpa [lC] using hc 2 (by decide)⟩
 have HS:Hid (ls.Pairwise (fun a b=>a.num<b.num)):=hsort
 clear ho hsort
 go_enter Tryz.func204,Tryz.ntmps204
 have hef:∀args w,(callFunc 205 args).run Tryz.prog w=.ok (.enter 205 args) w:=enters_of Tryz.func205 (by kernel_rfl) rfl
 go_wp2
 go_loopw [9,10] (fun i j wr=>∃lo hi:Nat,i=.int .i64 lo/\j=.int .i64 hi/\lo<=hi/\hi<=ls.length/\Hid ((∀j x,j<lo->ls[j]?=some x->x.num<n)/\(∀j x,hi<=j->ls[j]?=some x->n<=x.num))/\Below w.heap.size w wr) (fun i j _=>(intOf j).toNat -(intOf i).toNat)
 case atStart=>exact ⟨0,ls.length,rfl,rfl,Nat.zero_le _,Nat.le_refl _,⟨fun j x h=>by omega,fun j x h hx=>by have:=(List.getElem?_eq_some_iff.1 hx).1;omega⟩,Below.refl _ _⟩
 case round=>
  obtain ⟨lo,hi,rfl,rfl,hlh,hin,HI,hbel⟩:=hrel
  have hzr:=hbel.size
  by_cases hlt:lo<hi
  ·have hml:(lo+hi)/2<ls.length:=by omega
   have HG:Hid (ls[(lo+hi)/2]?=some ls[(lo+hi)/2]):=List.getElem?_eq_getElem hml
   generalize ls[(lo+hi)/2]=x at *
   obtain ⟨r0,r1,r2⟩:=HR.out wr hbel _ _ HG.out
   go_wp2_with fail
   refine (give1_any x n wr).mono ?_
   rintro e w1 ⟨rfl,hb1⟩
   have hB1:=hbel.trans (hb1.mono hzr)
   clear r0 r1 r2
   by_cases hc:x.num<n
   ·have hd:decide (cmpI x.num n<0)=true:=by simpa using (cmpI_neg _ _).2 hc
    have HC:Hid (x.num<n):=hc
    clear hc
    generalize cmpI x.num n=cv at *
    go_wp2
    refine ⟨⟨(lo+hi)/2+1,hi,by go_num,rfl,by omega,hin,⟨?_,HI.out.2⟩,hB1⟩,by simp [intOf];omega⟩
    intro j y hj hy
    rcases Nat.lt_or_ge j ((lo+hi)/2) with h|h
    ·have:=List.pairwise_iff_getElem.1 HS.out j ((lo+hi)/2) (by omega) hml h
     obtain ⟨_,rfl⟩:=List.getElem?_eq_some_iff.1 hy
     obtain ⟨_,e⟩:=List.getElem?_eq_some_iff.1 HG.out
     rw [e] at this
     have h3:=HC.out
     omega
    ·obtain rfl:j=(lo+hi)/2:=by omega
     rw [HG.out] at hy
     cases hy
     exact HC.out
   ·have hd:decide (cmpI x.num n<0)=false:=by simpa using fun e=>hc ((cmpI_neg _ _).1 e)
    have HC:Hid (n<=x.num):=Int.not_lt.1 hc
    clear hc
    generalize cmpI x.num n=cv at *
    go_wp2
    refine ⟨⟨lo,(lo+hi)/2,rfl,by go_num,by omega,by omega,⟨HI.out.1,?_⟩,hB1⟩,by simp [intOf];omega⟩
    intro j y hj hy
    rcases Nat.lt_or_ge ((lo+hi)/2) j with h|h
    ·have hjl:=(List.getElem?_eq_some_iff.1 hy).1
     have:=List.pairwise_iff_getElem.1 HS.out ((lo+hi)/2) j hml hjl h
     obtain ⟨_,rfl⟩:=List.getElem?_eq_some_iff.1 hy
     obtain ⟨_,e⟩:=List.getElem?_eq_some_iff.1 HG.out
     rw [e] at this
     have h3:=HC.out
     omega
    ·obtain rfl:j=(lo+hi)/2:=by omega
     rw [HG.out] at hy
     cases hy
     exact HC.out
  ·obtain rfl:lo=hi:=by omega
   have HP:Hid (PlaceN ls n lo):=⟨hin,HI.out.1,HI.out.2⟩
   by_cases hn:lo<ls.length
   ·have HG:Hid (ls[lo]?=some ls[lo]):=List.getElem?_eq_getElem hn
    generalize ls[lo]=x at *
    obtain ⟨r0,r1,r2⟩:=HR.out wr hbel _ _ HG.out
    have hn':(lo:Int)<ls.length:=by omega
    go_wp2_with fail
    refine (give1_any x n wr).mono ?_
    rintro e w1 ⟨rfl,hb1⟩
    have hB1:=hbel.trans (hb1.mono hzr)
    clear r0 r1 r2
    have HD:Hid (decide (∃y,ls[lo]?=some y/\y.num=n)=(cmpI x.num n==0)):=by
     show _=_
     rw [HG.out]
     by_cases h:x.num=n
     ·rw [(cmpI_zero x.num n).2 h]
      simp [h]
     ·have h0:¬cmpI x.num n=0:=fun e=>h ((cmpI_zero x.num n).1 e)
      rw [show (cmpI x.num n==0)=false by simpa using h0]
      simp [h]
    generalize cmpI x.num n=cv at *
    go_wp2
    go_ret2
    exact ⟨lo,by rw [HD.out];first|rfl|simp [Act.put],HP.out,hB1⟩
   ·have HD:Hid (decide (∃y,ls[lo]?=some y/\y.num=n)=false):=by
     show _=_
     rw [List.getElem?_eq_none (by omega)]
     simp
    have hn':¬((lo:Int)<ls.length):=by omega
    go_wp2
    go_ret2
    exact ⟨lo,by rw [HD.out];first|rfl|simp [Act.put],HP.out,hbel⟩
end Go.Proofs.YtpekbmegopfhfaaGreatDoor
namespace Go.Proofs.YtpekbmegopfhfaaGreatDoor
open Go.ChangeShapes Go.WideShapes Go.ChangeAt Go.RowKit
structure PlaceP (ls:List Pd) (n:ByteArray) (i:Nat):Prop where
 le:i<=ls.length
 lo:∀j x,j<i->ls[j]?=some x->less x.name n=true
 hi:∀j x,i<=j->ls[j]?=some x->less x.name n=false
set_option maxRecDepth 20000 in
set_option maxHeartbeats 4000000 in
theorem searchPin_any (g cap:Nat) (ls:List Pd) (n:ByteArray) (w:World) (base:Nat) (ho:w.ownsRow base 134 2 (.slice (some ⟨g,0,none⟩) ls.length cap) ls.length (rowC pC ls)) (hl:ls.length<=600) (hsort:ls.Pairwise (fun a b=>less a.name b.name=true)):
 Calls Tryz.prog 230 #[.slice (some ⟨g,0,none⟩) ls.length cap,.string n,.func (.func 231) #[] #[]] w fun e w'=>∃i:Nat,e=.returned (.tuple #[.int .i64 i,.bool (decide (∃x,ls[i]?=some x/\x.name=n))])/\PlaceP ls n i/\Below w.heap.size w w':=by
 have hgl:g<w.heap.size:=(own_lt ho rfl).2
 have HO:Hid (w.ownsRow base 134 2 (.slice (some ⟨g,0,none⟩) ls.length cap) ls.length (rowC pC ls)):=ho
 have HR:Hid (∀(X:World),Below w.heap.size w X->∀k x,ls[k]?=some x->X.cell? ⟨g,k *2,none⟩=some (.string x.name)/\X.cell? ⟨g,k *2+1,none⟩=some (.string x.sum)):=fun X hX k x hx=>by
  have h:=own_below ho hX
  have hk:=(List.getElem?_eq_some_iff.1 hx).1
  have hc:∀j,j<2->X.cell? ⟨g,k *2+j,none⟩=(pC x)[j]?:=fun j hj=>(h.cellAt (k *2+j) (by omega)).trans (row_get pC_len hx hj)
  exact ⟨by simpa [pC] using hc 0 (by decide),by simpa [pC] using hc 1 (by decide)⟩
 have HS:Hid (ls.Pairwise (fun a b=>less a.name b.name=true)):=hsort
 clear ho hsort
 go_enter Tryz.func230,Tryz.ntmps230
 have hef:∀args w,(callFunc 231 args).run Tryz.prog w=.ok (.enter 231 args) w:=enters_of Tryz.func231 (by kernel_rfl) rfl
 go_wp2
 go_loopw [9,10] (fun i j wr=>∃lo hi:Nat,i=.int .i64 lo/\j=.int .i64 hi/\lo<=hi/\hi<=ls.length/\Hid ((∀j x,j<lo->ls[j]?=some x->less x.name n=true)/\(∀j x,hi<=j->ls[j]?=some x->less x.name n=false))/\Below w.heap.size w wr) (fun i j _=>(intOf j).toNat -(intOf i).toNat)
 case atStart=>exact ⟨0,ls.length,rfl,rfl,Nat.zero_le _,Nat.le_refl _,⟨fun j x h=>by omega,fun j x h hx=>by have:=(List.getElem?_eq_some_iff.1 hx).1;omega⟩,Below.refl _ _⟩
 case round=>
  obtain ⟨lo,hi,rfl,rfl,hlh,hin,HI,hbel⟩:=hrel
  have hzr:=hbel.size
  by_cases hlt:lo<hi
  ·have hml:(lo+hi)/2<ls.length:=by omega
   have HG:Hid (ls[(lo+hi)/2]?=some ls[(lo+hi)/2]):=List.getElem?_eq_getElem hml
   generalize ls[(lo+hi)/2]=x at *
   obtain ⟨r0,r1⟩:=HR.out wr hbel _ _ HG.out
   go_wp2_with fail
   refine (place1_any x n wr).mono ?_
   rintro e w1 ⟨rfl,hb1⟩
   have hB1:=hbel.trans (hb1.mono hzr)
   clear r0 r1
   by_cases hc:less x.name n=true
   ·have hd:decide (cmpS x.name n<0)=true:=by simpa using (cmpS_neg _ _).2 hc
    have HC:Hid (less x.name n=true):=hc
    clear hc
    generalize cmpS x.name n=cv at *
    go_wp2
    refine ⟨⟨(lo+hi)/2+1,hi,by go_num,rfl,by omega,hin,⟨?_,HI.out.2⟩,hB1⟩,by simp [intOf];omega⟩
    intro j y hj hy
    rcases Nat.lt_or_ge j ((lo+hi)/2) with h|h
    ·have:=List.pairwise_iff_getElem.1 HS.out j ((lo+hi)/2) (by omega) hml h
     obtain ⟨_,rfl⟩:=List.getElem?_eq_some_iff.1 hy
     obtain ⟨_,e⟩:=List.getElem?_eq_some_iff.1 HG.out
     rw [e] at this
     exact less_trans this HC.out
    ·obtain rfl:j=(lo+hi)/2:=by omega
     rw [HG.out] at hy
     cases hy
     exact HC.out
   ·have hd:decide (cmpS x.name n<0)=false:=by simpa using fun e=>hc ((cmpS_neg _ _).1 e)
    have HC:Hid (less x.name n=false):=by show _=_;simpa using hc
    clear hc
    generalize cmpS x.name n=cv at *
    go_wp2
    refine ⟨⟨lo,(lo+hi)/2,rfl,by go_num,by omega,by omega,⟨HI.out.1,?_⟩,hB1⟩,by simp [intOf];omega⟩
    intro j y hj hy
    rcases Nat.lt_or_ge ((lo+hi)/2) j with h|h
    ·have hjl:=(List.getElem?_eq_some_iff.1 hy).1
     have:=List.pairwise_iff_getElem.1 HS.out ((lo+hi)/2) j hml hjl h
     obtain ⟨_,rfl⟩:=List.getElem?_eq_some_iff.1 hy
     obtain ⟨_,e⟩:=List.getElem?_eq_some_iff.1 HG.out
     rw [e] at this
     have h3:=HC.out
     cases h':less ls[j].name n with
     |false=>rfl
     |true=>rw [less_trans this h'] at h3;cases h3
    ·obtain rfl:j=(lo+hi)/2:=by omega
     rw [HG.out] at hy
     cases hy
     exact HC.out
  ·obtain rfl:lo=hi:=by omega
   have HP:Hid (PlaceP ls n lo):=⟨hin,HI.out.1,HI.out.2⟩
   by_cases hn:lo<ls.length
   ·have HG:Hid (ls[lo]?=some ls[lo]):=List.getElem?_eq_getElem hn
    generalize ls[lo]=x at *
    obtain ⟨r0,r1⟩:=HR.out wr hbel _ _ HG.out
    have hn':(lo:Int)<ls.length:=by omega
    go_wp2_with fail
    refine (place1_any x n wr).mono ?_
    rintro e w1 ⟨rfl,hb1⟩
    have hB1:=hbel.trans (hb1.mono hzr)
    clear r0 r1
    have HD:Hid (decide (∃y,ls[lo]?=some y/\y.name=n)=(cmpS x.name n==0)):=by
     show _=_
     rw [HG.out]
     by_cases h:x.name=n
     ·rw [(cmpS_zero x.name n).2 h]
      simp [h]
     ·have h0:¬cmpS x.name n=0:=fun e=>h ((cmpS_zero x.name n).1 e)
      rw [show (cmpS x.name n==0)=false by simpa using h0]
      simp [h]
    generalize cmpS x.name n=cv at *
    go_wp2
    go_ret2
    exact ⟨lo,by rw [HD.out];first|rfl|simp [Act.put],HP.out,hB1⟩
   ·have HD:Hid (decide (∃y,ls[lo]?=some y/\y.name=n)=false):=by
     show _=_
     rw [List.getElem?_eq_none (by omega)]
     simp
    have hn':¬((lo:Int)<ls.length):=by omega
    go_wp2
    go_ret2
    exact ⟨lo,by rw [HD.out];first|rfl|simp [Act.put],HP.out,hbel⟩
end Go.Proofs.YtpekbmegopfhfaaGreatDoor
namespace Go.Proofs.YtpekbmegopfhfaaGreatDoor
open Go.ChangeShapes Go.WideShapes Go.ChangeAt Go.RowKit
theorem own_some' {w:World} {base:Nat} {e:TypeId} {size:Nat} {v:Value} {n:Nat} {xs:List Value} (h:w.ownsRow base e size v n xs) (hn:0<n):∃g cap,v=.slice (some ⟨g,0,none⟩) n cap:=by
 rcases h.2 with ⟨_,hz⟩|⟨g,cap,cur,rfl,_⟩
 ·omega
 ·exact ⟨g,cap,rfl⟩
theorem PlaceN.at {ls:List Ld} {n:Int} {i:Nat} (h:PlaceN ls n i) (hth:∃x∈ls,x.num=n) (hsort:ls.Pairwise (fun a b=>a.num<b.num)):∃x,ls[i]?=some x/\x.num=n:=by
 obtain ⟨x,hx,hn⟩:=hth
 obtain ⟨j,hj⟩:=List.getElem?_of_mem hx
 have hjl:=(List.getElem?_eq_some_iff.1 hj).1
 have hij:i=j:=by
  rcases Nat.lt_trichotomy i j with h'|h'|h'
  ·have h1:=h.hi i ls[i] (Nat.le_refl _) (List.getElem?_eq_getElem (by omega))
   have h2:=List.pairwise_iff_getElem.1 hsort i j (by omega) hjl h'
   obtain ⟨_,e⟩:=List.getElem?_eq_some_iff.1 hj
   rw [e] at h2
   omega
  ·exact h'
  ·have:=h.lo j x h' hj
   omega
 exact ⟨x,hij▸hj,hn⟩
theorem PlaceP.at {ls:List Pd} {n:ByteArray} {i:Nat} (h:PlaceP ls n i) (hth:∃x∈ls,x.name=n) (hsort:ls.Pairwise (fun a b=>less a.name b.name=true)):∃x,ls[i]?=some x/\x.name=n:=by
 obtain ⟨x,hx,hn⟩:=hth
 obtain ⟨j,hj⟩:=List.getElem?_of_mem hx
 have hjl:=(List.getElem?_eq_some_iff.1 hj).1
 have hij:i=j:=by
  rcases Nat.lt_trichotomy i j with h'|h'|h'
  ·have h1:=h.hi i ls[i] (Nat.le_refl _) (List.getElem?_eq_getElem (by omega))
   have h2:=List.pairwise_iff_getElem.1 hsort i j (by omega) hjl h'
   obtain ⟨_,e⟩:=List.getElem?_eq_some_iff.1 hj
   rw [e,hn] at h2
   rw [h2] at h1
   cases h1
  ·exact h'
  ·have:=h.lo j x h' hj
   rw [hn,less_irrefl] at this
   cases this
 exact ⟨x,hij▸hj,hn⟩
def giveL (ls:List Ld) (n:Int):List Ld:=ls.filter (fun x=> !decide (x.num=n))
def unpinP (ps:List Pd) (n:ByteArray):List Pd:=ps.filter (fun x=> !decide (x.name=n))
theorem filter_erase {A:Type} {q:A->Bool}:∀{xs:List A} {i:Nat} {x:A},xs[i]?=some x->q x=false->(∀j y,xs[j]?=some y->j≠i->q y=true)->xs.filter q=xs.eraseIdx i
 |[],i,x,hx,_,_=>by simp at hx
 |y::ys,0,x,hx,hq,ho=>by
  simp only [List.getElem?_cons_zero,Option.some.injEq] at hx
  subst hx
  rw [List.filter_cons,hq,List.eraseIdx_cons_zero]
  simp only [Bool.false_eq_true,if_false]
  exact List.filter_eq_self.2 (fun z hz=>by
   obtain ⟨j,hj⟩:=List.getElem?_of_mem hz
   exact ho (j+1) z (by simpa using hj) (by omega))
 |y::ys,i+1,x,hx,hq,ho=>by
  have hy:=ho 0 y (by simp) (by omega)
  rw [List.filter_cons,hy,List.eraseIdx_cons_succ]
  simp only [if_true]
  rw [filter_erase (i:=i) (x:=x) (by simpa using hx) hq (fun j z hj hne=>ho (j+1) z (by simpa using hj) (by omega))]
theorem giveL_erase {ls:List Ld} {n:Int} {i:Nat} {x:Ld} (hx:ls[i]?=some x) (hn:x.num=n) (hsort:ls.Pairwise (fun a b=>a.num<b.num)):giveL ls n=ls.eraseIdx i:=by
 refine filter_erase hx (by simp [hn]) (fun j y hj hne=> ?_)
 have hil:=(List.getElem?_eq_some_iff.1 hx).1
 have hjl:=(List.getElem?_eq_some_iff.1 hj).1
 obtain ⟨_,e1⟩:=List.getElem?_eq_some_iff.1 hx
 obtain ⟨_,e2⟩:=List.getElem?_eq_some_iff.1 hj
 rcases Nat.lt_or_gt_of_ne hne with h|h
 ·have:=List.pairwise_iff_getElem.1 hsort j i hjl hil h
  rw [e1,e2] at this
  simp;omega
 ·have:=List.pairwise_iff_getElem.1 hsort i j hil hjl h
  rw [e1,e2] at this
  simp;omega
theorem unpinP_erase {ls:List Pd} {n:ByteArray} {i:Nat} {x:Pd} (hx:ls[i]?=some x) (hn:x.name=n) (hsort:ls.Pairwise (fun a b=>less a.name b.name=true)):unpinP ls n=ls.eraseIdx i:=by
 refine filter_erase hx (by simp [hn]) (fun j y hj hne=> ?_)
 have hil:=(List.getElem?_eq_some_iff.1 hx).1
 have hjl:=(List.getElem?_eq_some_iff.1 hj).1
 obtain ⟨_,e1⟩:=List.getElem?_eq_some_iff.1 hx
 obtain ⟨_,e2⟩:=List.getElem?_eq_some_iff.1 hj
 have hne':y.name≠n:=fun e=>by
  rcases Nat.lt_or_gt_of_ne hne with h|h
  ·have:=List.pairwise_iff_getElem.1 hsort j i hjl hil h
   rw [e1,e2,e,hn,less_irrefl] at this
   cases this
  ·have:=List.pairwise_iff_getElem.1 hsort i j hil hjl h
   rw [e1,e2,e,hn,less_irrefl] at this
   cases this
 simpa using hne'
set_option maxRecDepth 20000 in
set_option maxHeartbeats 4000000 in
theorem give_yes (base d m:Nat) (O P L:Value) (wd now given births:Int) (ks:List Kd) (ps:List Pd) (ls:List Ld) (n:Int) (w:World) (h:DU w base d m O P L wd now given births ks ps ls) (hl:ls.length<=200) (hsort:ls.Pairwise (fun a b=>a.num<b.num)) (hth:∃x∈ls,x.num=n):
 Calls Tryz.prog 172 #[.pointer (some ⟨d,0,none⟩),.int .i64 n] w fun e w'=>e=.returned (.tuple #[])/\∃L',DU w' base d m O P L' wd now given births ks ps (giveL ls n)/\Tn (d::L.ownBlock.toList) w w':=by
 have hpos:0<ls.length:=by obtain ⟨x,hx,_⟩:=hth;exact List.length_pos_of_mem hx
 obtain ⟨g,cap,hLe⟩:=own_some' h.dr.lea hpos
 subst hLe
 have HD:Hid (DU w base d m O P (.slice (some ⟨g,0,none⟩) ls.length cap) wd now given births ks ps ls):=h
 have HSo:Hid (ls.Pairwise (fun a b=>a.num<b.num)):=hsort
 have HTh:Hid (∃x∈ls,x.num=n):=hth
 have HS:Hid _:=searchLease_any g cap ls n w base h.dr.lea (by omega) hsort
 obtain ⟨c7,_⟩:=h.dr.box 7 _ rfl
 clear h hsort hth
 go_enter Tryz.func172,Tryz.ntmps172
 go_wp2_with fail
 refine Calls.mono HS.out ?_
 rintro e w1 ⟨i,rfl,hp1,hb1⟩
 obtain ⟨x,hxi,hxn⟩:=hp1.at HTh.out HSo.out
 have hdec:decide (∃x,ls[i]?=some x/\x.num=n)=true:=by simpa using ⟨x,hxi,hxn⟩
 have hil:i<ls.length:=(List.getElem?_eq_some_iff.1 hxi).1
 have HE:Hid (giveL ls n=ls.eraseIdx i):=giveL_erase hxi hxn HSo.out
 have hD1:=HD.out.below hb1
 have HD1:Hid (DU w1 base d m O P (.slice (some ⟨g,0,none⟩) ls.length cap) wd now given births ks ps ls):=hD1
 have HB1:Hid (Below w.heap.size w w1):=hb1
 have HDel:Hid _:=deleteLease_any g cap i ls w1 base hD1.dr.lea (by omega) hil
 obtain ⟨e7,_⟩:=hD1.dr.box 7 _ rfl
 rw [hdec]
 clear hdec hxi hxn hp1 hD1 hb1 HD HS HTh HSo c7
 go_wp2_with fail
 refine Calls.mono HDel.out ?_
 rintro e w2 ⟨rfl,ho2,hg2⟩
 have hne:∀b,(Value.slice (some ⟨g,0,none⟩) (ls.length -1) cap).ownBlock=some b->b≠d:=fun b hb=>((ap_parts HD1.out.dr.ap).2.2.2 b hb).1
 have hbox2:CellsAt w2 d [.int .i64 wd,.map (some m),.int .i64 now,.int .i64 given,.int .i64 births,O,P,.slice (some ⟨g,0,none⟩) ls.length cap]:=CellsAt.same HD1.out.dr.box (hg2.block d HD1.out.dr.box.lt (fun e=>hne g rfl (Option.some.inj e).symm))
 obtain ⟨f7,k7⟩:=hbox2 7 _ rfl
 have hK:∃L',DU (w2.setCell ⟨d,7,none⟩ (.slice (some ⟨g,0,none⟩) (ls.length -1) cap)) base d m O P L' wd now given births ks ps (giveL ls n)/\Tn (d::(Value.slice (some ⟨g,0,none⟩) ls.length cap).ownBlock.toList) w (w2.setCell ⟨d,7,none⟩ (.slice (some ⟨g,0,none⟩) (ls.length -1) cap)):=by
  have t1:Tn (d::(Value.slice (some ⟨g,0,none⟩) ls.length cap).ownBlock.toList) w1 (w2.setCell ⟨d,7,none⟩ (.slice (some ⟨g,0,none⟩) (ls.length -1) cap)):=
   ((tn_grown hg2).mono (by intro b hb;simp [Value.ownBlock] at hb ⊢;exact .inr hb)).trans ((tn1 w2 d 7 _).mono (by simp))
  refine ⟨_,HD1.out.newL t1 (hbox2.set 7 _) ?_ (.inl rfl),(Tn.of HB1.out).trans t1⟩
  rw [HE.out,List.length_eraseIdx,if_pos hil]
  exact own_set ho2 hne 7 _
 have HK:Hid _:=hK
 clear hK ho2 hg2 hbox2 e7
 go_wp2
 go_end0
 exact ⟨rfl,HK.out⟩
set_option maxHeartbeats 1000000 in
theorem pinPlace_any (base d m:Nat) (O L:Value) (g cap:Nat) (wd now given births:Int) (ks:List Kd) (ps:List Pd) (ls:List Ld) (n:ByteArray) (w:World) (h:DU w base d m O (.slice (some ⟨g,0,none⟩) ps.length cap) L wd now given births ks ps ls) (hl:ps.length<=200) (hsort:ps.Pairwise (fun a b=>less a.name b.name=true)):
 Calls Tryz.prog 201 #[.pointer (some ⟨d,0,none⟩),.string n] w fun e w'=>∃i:Nat,e=.returned (.tuple #[.int .i64 i,.bool (decide (∃x,ps[i]?=some x/\x.name=n))])/\PlaceP ps n i/\Below w.heap.size w w':=by
 have HS:Hid _:=searchPin_any g cap ps n w base h.dr.pin (by omega) hsort
 obtain ⟨c6,_⟩:=h.dr.box 6 _ rfl
 clear h hsort
 go_enter Tryz.func201,Tryz.ntmps201
 go_wp2_with fail
 refine Calls.mono HS.out ?_
 rintro e w1 ⟨i,rfl,hp1,hb1⟩
 obtain ⟨bb,hbb⟩:∃bb,decide (∃x,ps[i]?=some x/\x.name=n)=bb:=⟨_,rfl⟩
 have HBB:Hid (decide (∃x,ps[i]?=some x/\x.name=n)=bb):=hbb
 rw [hbb]
 clear hbb
 go_wp2
 go_ret2
 exact ⟨i,by rw [HBB.out];rfl,hp1,hb1⟩
set_option maxRecDepth 20000 in
set_option maxHeartbeats 4000000 in
theorem unpin_yes (base d m:Nat) (O P L:Value) (wd now given births:Int) (ks:List Kd) (ps:List Pd) (ls:List Ld) (n:ByteArray) (w:World) (h:DU w base d m O P L wd now given births ks ps ls) (hl:ps.length<=200) (hsort:ps.Pairwise (fun a b=>less a.name b.name=true)) (hth:∃x∈ps,x.name=n):
 Calls Tryz.prog 171 #[.pointer (some ⟨d,0,none⟩),.string n] w fun e w'=>e=.returned (.tuple #[])/\∃P',DU w' base d m O P' L wd now given births ks (unpinP ps n) ls/\Tn (d::P.ownBlock.toList) w w':=by
 have hpos:0<ps.length:=by obtain ⟨x,hx,_⟩:=hth;exact List.length_pos_of_mem hx
 obtain ⟨g,cap,hLe⟩:=own_some' h.dr.pin hpos
 subst hLe
 have HD:Hid (DU w base d m O (.slice (some ⟨g,0,none⟩) ps.length cap) L wd now given births ks ps ls):=h
 have HSo:Hid (ps.Pairwise (fun a b=>less a.name b.name=true)):=hsort
 have HTh:Hid (∃x∈ps,x.name=n):=hth
 have HS:Hid _:=pinPlace_any base d m O L g cap wd now given births ks ps ls n w h hl hsort
 clear h hsort hth
 go_enter Tryz.func171,Tryz.ntmps171
 go_wp2_with fail
 refine Calls.mono HS.out ?_
 rintro e w1 ⟨i,rfl,hp1,hb1⟩
 obtain ⟨x,hxi,hxn⟩:=hp1.at HTh.out HSo.out
 have hdec:decide (∃x,ps[i]?=some x/\x.name=n)=true:=by simpa using ⟨x,hxi,hxn⟩
 have hil:i<ps.length:=(List.getElem?_eq_some_iff.1 hxi).1
 have HE:Hid (unpinP ps n=ps.eraseIdx i):=unpinP_erase hxi hxn HSo.out
 have hD1:=HD.out.below hb1
 have HD1:Hid (DU w1 base d m O (.slice (some ⟨g,0,none⟩) ps.length cap) L wd now given births ks ps ls):=hD1
 have HB1:Hid (Below w.heap.size w w1):=hb1
 have HDel:Hid _:=deletePin_any g cap i ps w1 base hD1.dr.pin (by omega) hil
 obtain ⟨e6,_⟩:=hD1.dr.box 6 _ rfl
 rw [hdec]
 clear hdec hxi hxn hp1 hD1 hb1 HD HS HTh HSo
 go_wp2_with fail
 refine Calls.mono HDel.out ?_
 rintro e w2 ⟨rfl,ho2,hg2⟩
 have hne:∀b,(Value.slice (some ⟨g,0,none⟩) (ps.length -1) cap).ownBlock=some b->b≠d:=fun b hb=>((ap_parts HD1.out.dr.ap).2.2.1 b hb).1
 have hbox2:CellsAt w2 d [.int .i64 wd,.map (some m),.int .i64 now,.int .i64 given,.int .i64 births,O,.slice (some ⟨g,0,none⟩) ps.length cap,L]:=CellsAt.same HD1.out.dr.box (hg2.block d HD1.out.dr.box.lt (fun e=>hne g rfl (Option.some.inj e).symm))
 obtain ⟨f6,k6⟩:=hbox2 6 _ rfl
 have hK:∃P',DU (w2.setCell ⟨d,6,none⟩ (.slice (some ⟨g,0,none⟩) (ps.length -1) cap)) base d m O P' L wd now given births ks (unpinP ps n) ls/\Tn (d::(Value.slice (some ⟨g,0,none⟩) ps.length cap).ownBlock.toList) w (w2.setCell ⟨d,6,none⟩ (.slice (some ⟨g,0,none⟩) (ps.length -1) cap)):=by
  have t1:Tn (d::(Value.slice (some ⟨g,0,none⟩) ps.length cap).ownBlock.toList) w1 (w2.setCell ⟨d,6,none⟩ (.slice (some ⟨g,0,none⟩) (ps.length -1) cap)):=
   ((tn_grown hg2).mono (by intro b hb;simp [Value.ownBlock] at hb ⊢;exact .inr hb)).trans ((tn1 w2 d 6 _).mono (by simp))
  refine ⟨_,HD1.out.newP t1 (hbox2.set 6 _) ?_ (.inl rfl),(Tn.of HB1.out).trans t1⟩
  rw [HE.out,List.length_eraseIdx,if_pos hil]
  exact own_set ho2 hne 6 _
 have HK:Hid _:=hK
 clear hK ho2 hg2 hbox2 e6
 go_wp2
 go_end0
 exact ⟨rfl,HK.out⟩
end Go.Proofs.YtpekbmegopfhfaaGreatDoor
