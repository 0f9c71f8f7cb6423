import Derived.Test.YtflhhhnlhlaehaaGreatDoorC10
set_option maxRecDepth 100000
set_option maxHeartbeats 16000000
namespace Go.Proofs.YtflhhhnlhlaehaaGreatDoor
open Go.ChangeShapes Go.WideShapes Go.ChangeAt Go.RowKit _root_.Go.Proofs.Tryz
section
def NS (w:World) (b:Nat):Prop:=∀cur fz,w.heap[b]?≠some (.cells cur 9 fz)
theorem CA.move {w w':World} {base:Nat} {U V V':List Nat} {a:Option Addr} {ss:List ByteArray} (h:CA w base V a ss) (ht:Tn U w w') (hU:∀b∈U,b∈V∨(base<=b/\NS w b)) (hV:∀b∈V',b∈V∨w.heap.size<=b) (hm:V'[1]?=V[1]?:=by rfl):CA w' base V' a ss:=by
 rcases h with h|⟨b,off,ha,hb,hv,hx,hc⟩
 ·exact .inl h
 ·have zC:b∉U:=fun e=>by
   rcases hU b e with e|⟨e1,e2⟩
   ·exact hv e
   ·rcases hx with hx|⟨_,zB,hx⟩
    ·omega
    ·exact e2 zB _ hx
  have zA:=ht.block b hb zC;refine .inr ⟨b,off,ha,Uy hb ht.size,fun e=> ?_,(by rw[zA];unfold Ps;rw[hm];exact hx),fun i s hs=>(World.cell?_of_block (a:=⟨b,off+i,none⟩) zA).trans (hc i s hs)⟩;rcases hV b e with e|e
  ·exact hv e
  ·omega
theorem Bd.move {w w':World} {base:Nat} {U V V':List Nat} {wd:Int} {ks:List Kd} {f:Lit->Option Value} (h:Bd w base V wd ks f) (ht:Tn U w w') (hU:∀b∈U,b∈V∨(base<=b/\NS w b)) (hV:∀b∈V',b∈V∨w.heap.size<=b) (hm:V'[1]?=V[1]?:=by rfl):Bd w' base V' wd ks f:=by
 intro s hs;rcases h s hs with h|⟨u,ra,rc,h1,h2,h3,h4⟩
 ·exact .inl h
 ·exact .inr ⟨u,ra,rc,h1,h2,h3,h4.move ht hU hV hm⟩
structure DU (w:World) (base d m:Nat) (O P L:Value) (wd now given births:Int) (ks:List Kd) (ps:List Pd) (ls:List Ld):Prop where
 dr:Dr w base d m O P L wd now given births ks ps ls
variable {w w':World} {base d m:Nat} {O P L:Value} {wd now given births:Int} {ks:List Kd} {ps:List Pd} {ls:List Ld}
theorem DU.lo (h:DU w base d m O P L wd now given births ks ps ls):base<=w.heap.size:=by
 have:=h.dr.bd;have:=h.dr.box.lt;omega
theorem DU.turn {V:List Nat} (h:DU w base d m O P L wd now given births ks ps ls) (ht:Tn V w w') (hV:∀b∈V,base<=b/\b∉vB d m O P L/\NS w b):DU w' base d m O P L wd now given births ks ps ls:=by
 have zA:=h.dr.lts;have hs:∀b∈vB d m O P L,w'.heap[b]?=w.heap[b]?:=fun b hb=>ht.block b (zA b hb) (fun e=>(hV b e).2.1 hb);obtain⟨n,f,h1,h2,h3⟩:=h.dr.map;have h:=h.dr
 exact⟨⟨Aa.same h.box (hs d (by simp[vB])),⟨n,f,h1,AM.same h2 (hs m (by simp[vB])),h3.move ht (fun b hb=> .inr ⟨(hV b hb).1,(hV b hb).2.2⟩) (fun b hb=> .inl hb)⟩,AD h.ord (fun g hg=>hs g (by simp[vB,hg])),AD h.pin (fun g hg=>hs g (by simp[vB,hg])),AD h.lea (fun g hg=>hs g (by simp[vB,hg])),h.bd,h.bm,h.ap⟩⟩
theorem DU.below (h:DU w base d m O P L wd now given births ks ps ls) (hb:Uq w w'):DU w' base d m O P L wd now given births ks ps ls:=
 h.turn (V:=[]) (Tn.of hb) (by simp)
theorem QY {d m n:Nat} {O P L L':Option Nat} (h:(d::m::(O.toList++(P.toList++L.toList))).Nodup) (zA:∀b∈d::m::(O.toList++(P.toList++L.toList)),b<n) (hL:L'=L∨∃g,L'=some g/\n<=g):(d::m::(O.toList++(P.toList++L'.toList))).Nodup:=by
 rcases hL with rfl|⟨g,rfl,hg⟩
 ·exact h
 ·cases O<;>cases P<;>cases L<;>simp_all<;>grind
theorem QZ {d m n:Nat} {O P L P':Option Nat} (h:(d::m::(O.toList++(P.toList++L.toList))).Nodup) (zA:∀b∈d::m::(O.toList++(P.toList++L.toList)),b<n) (hL:P'=P∨∃g,P'=some g/\n<=g):(d::m::(O.toList++(P'.toList++L.toList))).Nodup:=by
 rcases hL with rfl|⟨g,rfl,hg⟩
 ·exact h
 ·cases O<;>cases P<;>cases L<;>simp_all<;>grind
theorem Cm {d m:Nat} {O P L:Option Nat} (h:(d::m::(O.toList++(P.toList++L.toList))).Nodup):d≠m/\(∀g,O=some g->g≠d/\g≠m/\P≠some g/\L≠some g)/\(∀g,P=some g->g≠d/\g≠m/\L≠some g)/\(∀g,L=some g->g≠d/\g≠m):=by
 cases O<;>cases P<;>cases L<;>simp_all<;>grind
theorem DU.newL (h:DU w base d m O P L wd now given births ks ps ls) (ht:Tn (d::L.ownBlock.toList) w w') {L':Value} {zE:List Ld} {zB zA:Int} (zD:Aa w' d [.int .i64 wd,.map (some m),.int .i64 zB,.int .i64 zA,.int .i64 births,O,P,L']) (hl:w'.ownsRow base 111 3 L' zE.length (Ab lC zE)) (hb:L'.ownBlock=L.ownBlock∨∃g,L'.ownBlock=some g/\w.heap.size<=g):DU w' base d m O P L' wd zB zA births ks ps zE:=by
 obtain⟨a1,a2,a3,a4⟩:=Cm h.dr.ap;obtain⟨n,f,m1,m2,m3⟩:=h.dr.map;have hU:∀b∈d::L.ownBlock.toList,b∈vB d m O P L:=by
  intro b hb;unfold vB;rcases List.mem_cons.1 hb with rfl|hb
  ·simp
  ·simp only[List.mem_cons,List.mem_append]
   exact .inr (.inr (.inr (.inr hb)))
 have hV:∀b∈vB d m O P L',b∈vB d m O P L∨w.heap.size<=b:=by
  intro b zC;unfold vB at zC ⊢;simp only[List.mem_cons,List.mem_append] at zC ⊢;rcases zC with e|e|e|e|e
  ·exact .inl (.inl e)
  ·exact .inl (.inr (.inl e))
  ·exact .inl (.inr (.inr (.inl e)))
  ·exact .inl (.inr (.inr (.inr (.inl e))))
  ·rcases hb with hb|⟨g,hg,zF⟩
   ·rw[hb] at e
    exact .inl (.inr (.inr (.inr (.inr e))))
   ·rw[hg] at e
    simp at e;exact .inr (by omega)
 refine⟨⟨zD,⟨n,f,m1,AM.same m2 (ht.block m m2.lt (fun e=> ?_)),m3.move ht (fun b hb=> .inl (hU b hb)) hV⟩,AD h.dr.ord (fun g hg=>ht.block g (Af h.dr.ord hg).2 (fun e=> ?_)),AD h.dr.pin (fun g hg=>ht.block g (Af h.dr.pin hg).2 (fun e=> ?_)),hl,h.dr.bd,h.dr.bm,QY h.dr.ap h.dr.lts hb⟩⟩
 ·rcases List.mem_cons.1 e with e|e
  ·exact a1 e.symm
  ·exact(a4 m (by simpa using e)).2 rfl
 ·rcases List.mem_cons.1 e with e|e
  ·exact(a2 g hg).1 e
  ·exact(a2 g hg).2.2.2 (by simpa using e)
 ·rcases List.mem_cons.1 e with e|e
  ·exact(a3 g hg).1 e
  ·exact(a3 g hg).2.2 (by simpa using e)
theorem DU.newP (h:DU w base d m O P L wd now given births ks ps ls) (ht:Tn (d::P.ownBlock.toList) w w') {P':Value} {zC:List Pd} (zB:Aa w' d [.int .i64 wd,.map (some m),.int .i64 now,.int .i64 given,.int .i64 births,O,P',L]) (hl:w'.ownsRow base 108 2 P' zC.length (Ab pC zC)) (hb:P'.ownBlock=P.ownBlock∨∃g,P'.ownBlock=some g/\w.heap.size<=g):DU w' base d m O P' L wd now given births ks zC ls:=by
 obtain⟨a1,a2,a3,a4⟩:=Cm h.dr.ap;obtain⟨n,f,m1,m2,m3⟩:=h.dr.map;have hU:∀b∈d::P.ownBlock.toList,b∈vB d m O P L:=by
  intro b hb;unfold vB;rcases List.mem_cons.1 hb with rfl|hb
  ·simp
  ·simp only[List.mem_cons,List.mem_append]
   exact .inr (.inr (.inr (.inl hb)))
 have hV:∀b∈vB d m O P' L,b∈vB d m O P L∨w.heap.size<=b:=by
  intro b zA;unfold vB at zA ⊢;simp only[List.mem_cons,List.mem_append] at zA ⊢;rcases zA with e|e|e|e|e
  ·exact .inl (.inl e)
  ·exact .inl (.inr (.inl e))
  ·exact .inl (.inr (.inr (.inl e)))
  ·rcases hb with hb|⟨g,hg,zD⟩
   ·rw[hb] at e
    exact .inl (.inr (.inr (.inr (.inl e))))
   ·rw[hg] at e
    simp at e;exact .inr (by omega)
  ·exact .inl (.inr (.inr (.inr (.inr e))))
 refine⟨⟨zB,⟨n,f,m1,AM.same m2 (ht.block m m2.lt (fun e=> ?_)),m3.move ht (fun b hb=> .inl (hU b hb)) hV⟩,AD h.dr.ord (fun g hg=>ht.block g (Af h.dr.ord hg).2 (fun e=> ?_)),hl,AD h.dr.lea (fun g hg=>ht.block g (Af h.dr.lea hg).2 (fun e=> ?_)),h.dr.bd,h.dr.bm,QZ h.dr.ap h.dr.lts hb⟩⟩
 ·rcases List.mem_cons.1 e with e|e
  ·exact a1 e.symm
  ·exact(a3 m (by simpa using e)).2.1 rfl
 ·rcases List.mem_cons.1 e with e|e
  ·exact(a2 g hg).1 e
  ·exact(a2 g hg).2.2.1 (by simpa using e)
 ·rcases List.mem_cons.1 e with e|e
  ·exact(a4 g hg).1 e
  ·exact(a3 g (by simpa using e)).2.2 hg
theorem Mc {A:Type} (c:A->List Value) (xs ys:List A):Ab c (xs++ys)=Ab c xs++Ab c ys:=by
 unfold Ab;simp
theorem Hw {a b:Int} (ha:0<=a) (zA:a<=1000000000) (hb:0<=b) (zB:b<=1000000000):IntKind.i64.wrap (a+b)=a+b:=by
 simp[IntKind.wrap,IntKind.bits,IntKind.signed];omega
theorem SH (w:World) (base:Nat) (v:Value) (ls:List Ld) (ho:w.ownsRow base 111 3 v ls.length (Ab lC ls)) (x:Ld) (hn:ls.length<=1000000) (zA:base<=w.heap.size) (ty:TypeId):
 ∃g cap w',(Builtin.append_ #[30,30] ty #[v,.slice (some ⟨w.heap.size,0,none⟩) 1 1]).run prog (w.alloc (.cells #[.int .i64 x.num,.string x.sum,.int .i64 x.til] 111))=.ok (.slice (some ⟨g,0,none⟩) (ls.length+1) cap) w'/\w'.ownsRow base 111 3 (.slice (some ⟨g,0,none⟩) (ls.length+1) cap) (ls++[x]).length (Ab lC (ls++[x]))/\w.grownBy w' v.ownBlock/\(v.ownBlock=some g∨g=w.heap.size+1):=by
 obtain⟨i0,hi,zC,zD,zE⟩:=info_parts Gp;have zB:=Ag ho ((Below.refl _ _).alloc (Us) (.cells #[.int .i64 x.num,.string x.sum,.int .i64 x.til] 111));have hc:∀j u,(Ab lC [x])[j]?=some u->(w.alloc (.cells #[.int .i64 x.num,.string x.sum,.int .i64 x.til] 111)).cell? ((⟨w.heap.size,0,none⟩:Addr).add j)=some u:=by
  intro j u hu;rw[Go.WideShapes.add_plain,Nat.zero_add];exact(Aa.new w [.int .i64 x.num,.string x.sum,.int .i64 x.til] 111 j u (by simpa [Ab,lC] using hu)).1
 obtain⟨v',w',hr,h2,h3,_,h5⟩:=run_append_own_at (P:=prog) (w.alloc (.cells #[.int .i64 x.num,.string x.sum,.int .i64 x.til] 111)) base 30 ty 111 i0 _ 3 32 underlying30 hi zC zD zE rfl (by decide) v ls.length (Ab lC ls) zB ⟨w.heap.size,0,none⟩ 1 1 (Ab lC [x]) (by simp[Ab,lC]) hc (by intro u hu;simp[Ab,lC] at hu;rcases hu with rfl|rfl|rfl<;>rfl) (by unfold maxLen;omega) (by omega) (by simp;omega)
 obtain⟨g,cap,rfl,_,_⟩:=CM h2 (fun e=>by subst e;rcases h2.2 with⟨_,hn⟩|⟨_,_,_,e,_⟩<;>first|omega|cases e);refine⟨g,cap,w',hr,?_,(World.grownBy_alloc w _ _).trans h3,?_⟩
 ·rw[Mc,List.length_append]
  exact h2
 ·rcases h5 with h5|h5
  ·exact .inl h5.symm
  ·right
   simpa [Value.ownBlock] using h5
theorem Ll (base d m:Nat) (O P L:Value) (wd now given births:Int) (ks:List Kd) (ps:List Pd) (ls:List Ld) (s:ByteArray) (zA:Int) (w:World) (h:DU w base d m O P L wd now given births ks ps ls) (zT:∀k∈ks,(k.sum.size:Int)=wd) (zU:Av ks s) (hl:ls.length<200) (yG:0<=given) (yH:given<1000000000) (yC:0<=now) (yD:now<=1000000000) (yE:0<=zA) (yF:zA<=1000000000):
 Calls prog 88 #[.pointer (some ⟨d,0,none⟩),.string s,.int .i64 zA] w fun e w'=>e=.returned (.int .i64 (given+1))/\∃L',DU w' base d m O P L' wd now (given+1) births ks ps (ls++[⟨given+1,s,now+zA⟩])/\Tn (d::L.ownBlock.toList) w w':=by
 have HN:Hid _:=Dj base d m O P L wd now given births ks ps ls s w h.dr zT zU;have HD:Hid (DU w base d m O P L wd now given births ks ps ls):=h;have yJ:((ls.length:Int)==200)=false:=by simp;omega
 have yI:(given==1000000000)=false:=by simp;omega
 clear h zT zU;go_enter func88,ntmps88;go_wp2_with fail;refine Calls.mono HN.o ?_;rintro e w1 ⟨rfl,zJ⟩;have zD:=HD.o.below zJ;obtain⟨la,zC,zZ⟩:=AK zD.dr.lea;subst zZ;obtain⟨c2,_⟩:=zD.dr.box 2 _ rfl;obtain⟨c3,f3⟩:=zD.dr.box 3 _ rfl;obtain⟨c7,_⟩:=zD.dr.box 7 _ rfl;obtain⟨X,hX⟩:∃X,X=w1.setCell ⟨d,3,none⟩ (.int .i64 (given+1)):=⟨_,rfl⟩;have zG:Tn [d] w1 X:=by rw[hX];exact Gt _ _ _ _
 have zE:Aa X d [.int .i64 wd,.map (some m),.int .i64 now,.int .i64 (given+1),.int .i64 births,O,P,.slice la ls.length zC]:=by rw[hX];exact zD.dr.box.set 3 _
 have zI:∀g,(Value.slice la ls.length zC).ownBlock=some g->g≠d:=fun g hg=>((Cm zD.dr.ap).2.2.2 g hg).1;have zR:X.ownsRow base 111 3 (.slice la ls.length zC) ls.length (Ab lC ls):=AD zD.dr.lea (fun g hg=>zG.block g (Af zD.dr.lea hg).2 (by simp;exact zI g hg));have zP:d<X.heap.size:=zE.lt;have zL:base<=X.heap.size:=Uz zD.lo zG.size
 obtain⟨g8,zB,w8,zF,zS,zK,zQ⟩:=SH X.drew base _ ls (Ag zR ((Below.refl _ _).drew)) ⟨given+1,s,now+zA⟩ (by omega) zL 30;dsimp only at zF;replace zF:(Builtin.append_ #[30,30] 30 #[.slice la ls.length zC,.slice (some ⟨X.heap.size,0,none⟩) 1 1]).run prog (X.alloc (.cells #[.int .i64 (given+1),.string s,.int .i64 (now+zA)] 111)).drew=.ok (.slice (some ⟨g8,0,none⟩) (ls.length+1) zB) w8:=zF
 have yK:IntKind.i64.wrap (now+zA)=now+zA:=Hw yC yD yE yF;have zO:Below X.heap.size X (X.drew.alloc (.cells #[.int .i64 (given+1),.string s,.int .i64 (now+zA)] 111)):=(Below.refl _ _).drew.alloc (Us) _;have zN:=zE.below zO;have HX:Hid _:=hX;have H1:Hid (DU w1 base d m O P (.slice la ls.length zC) wd now given births ks ps ls):=zD;have zW:Hid (Uq w w1):=zJ
 have zH:Aa w8 d [.int .i64 wd,.map (some m),.int .i64 now,.int .i64 (given+1),.int .i64 births,O,P,.slice la ls.length zC]:=Aa.same zE (zK.block d (by simpa using zP) (fun e=>zI d e.symm rfl))
 have H8:Hid (w8.ownsRow base 111 3 (.slice (some ⟨g8,0,none⟩) (ls.length+1) zB) (ls++[(⟨given+1,s,now+zA⟩:Ld)]).length (Ab lC (ls++[(⟨given+1,s,now+zA⟩:Ld)]))/\X.drew.grownBy w8 (Value.slice la ls.length zC).ownBlock/\((Value.slice la ls.length zC).ownBlock=some g8∨g8=X.drew.heap.size+1)):=⟨zS,zK,zQ⟩
 have zV:Hid (Aa w8 d [.int .i64 wd,.map (some m),.int .i64 now,.int .i64 (given+1),.int .i64 births,O,P,.slice la ls.length zC]):=zH;have zM:Hid (Tn [d] w1 X):=zG;have zY:Hid (d<X.heap.size):=zP;clear hX zD zJ HN HD zG zR zS zK zQ;go_upto_region 5 with fail;rw[←HX.o];clear HX c2 c3 c7 f3;obtain⟨c2,c3,c7⟩:=Aa.c3 zE 2 3 7;obtain⟨a2,a3,a7⟩:=Aa.c3 zN 2 3 7;obtain⟨e7,f7⟩:=zH 7 _ rfl;clear zE zN zH zO
 go_region_law (first
  |(refine BB (by rfl) (.tmp 36) (.tmp 49) 30 30 (by rfl) (by rfl) (by rfl) zF ?_))
 all_goals
  clear zF c2 c3 c7 a2 a3 a7;have z8:=zV.o.set 7 (.slice (some ⟨g8,0,none⟩) (ls.length+1) zB);have z3:=(z8 3 _ rfl).1;have z7:X.heap.size<=w8.heap.size:=by have:=H8.o.2.1.size;simpa using this
  have zX:Hid (Aa (w8.setCell ⟨d,7,none⟩ (.slice (some ⟨g8,0,none⟩) (ls.length+1) zB)) d [.int .i64 wd,.map (some m),.int .i64 now,.int .i64 (given+1),.int .i64 births,O,P,.slice (some ⟨g8,0,none⟩) (ls.length+1) zB]):=z8;clear z8
  have hk:∃L',DU (w8.setCell ⟨d,7,none⟩ (.slice (some ⟨g8,0,none⟩) (ls.length+1) zB)) base d m O P L' wd now (given+1) births ks ps (ls++[(⟨given+1,s,now+zA⟩:Ld)])/\Tn (d::(Value.slice la ls.length zC).ownBlock.toList) w (w8.setCell ⟨d,7,none⟩ (.slice (some ⟨g8,0,none⟩) (ls.length+1) zB)):=by
   have t1:Tn (d::(Value.slice la ls.length zC).ownBlock.toList) w1 (w8.setCell ⟨d,7,none⟩ (.slice (some ⟨g8,0,none⟩) (ls.length+1) zB)):=
    ((zM.o.mono (by simp)).trans ((Tn.of ((Below.refl _ _).drew)).trans ((CO H8.o.2.1).mono (fun b hb=>List.mem_cons_of_mem _ hb)))).trans ((Gt w8 d 7 _).mono (by simp))
   have yB:∀g,(Value.slice (some ⟨g8,0,none⟩) (ls.length+1) zB).ownBlock=some g->g≠d:=fun g hg=>by
    obtain rfl:g8=g:=by simpa [Value.ownBlock] using hg
    rcases H8.o.2.2 with e|e
    ·exact zI g8 e
    ·have h1:g8=X.heap.size+1:=e
     have h2:=zY.o;omega
   have yA:(Value.slice (some ⟨g8,0,none⟩) (ls.length+1) zB).ownBlock=(Value.slice la ls.length zC).ownBlock∨∃g,(Value.slice (some ⟨g8,0,none⟩) (ls.length+1) zB).ownBlock=some g/\w1.heap.size<=g:=by
    rcases H8.o.2.2 with e|e
    ·exact .inl e.symm
    ·exact .inr ⟨g8,rfl,by have h1:g8=X.heap.size+1:=e;have:=zM.o.size;omega⟩
   exact⟨_,H1.o.newL t1 zX.o (BF H8.o.1 yB 7 _) yA,(Tn.of zW.o).trans t1⟩
  have HK:Hid _:=hk;clear hk;go_wp2;go_ret;exact⟨rfl,HK.o⟩
end
theorem Hx {A:Type} {c:A->List Value} {n:Nat} {e:TypeId} (hn:∀x,(c x).length=n) {w:World} {base g cap:Nat} {ss:List A} (h:w.ownsRow base e n (.slice (some ⟨g,0,none⟩) ss.length cap) ss.length (Ab c ss)) (i:Nat) (hi:i<=ss.length):w.ownsRow base e n (.slice (some ⟨g,0,none⟩) i cap) i (Ab c (ss.take i)):=by
 refine⟨by rw[Bb hn,List.length_take];congr 1;omega,?_⟩;rcases h.2 with⟨e,_⟩|⟨g',zA,zB,e,hb,hg,h1,h2,h3,h4⟩
 ·cases e
 ·cases e
  refine .inr ⟨g,cap,zB,rfl,hb,hg,by omega,h2,h3,?_⟩;rw[←El hn ss i hi,←h4,List.take_take];congr 1;exact(Nat.min_eq_left (Nat.mul_le_mul_right n hi)).symm
theorem Ra (w:World):(zeroValue 108).run prog w=.ok (.agg #[.string ⟨#[]⟩,.string ⟨#[]⟩]) w:=by kernel_rfl
theorem Km (w:World) (ty:TypeId) (b o c:Nat) (hc:∀j,j<2->(w.cell? ⟨b,o+j,none⟩).isSome=true) (hf:∀j,j<2->w.frozen? ⟨b,o+j,none⟩=false):
 (Builtin.clear_ #[29] ty #[.slice (some ⟨b,o,none⟩) 1 c]).run prog w=.ok (.tuple #[]) (w.setCells b o [.string ⟨#[]⟩,.string ⟨#[]⟩]):=by
 have zC:(Builtin.zeroCells (Value.agg #[.string ⟨#[]⟩,.string ⟨#[]⟩]).cells 1).toList=[.string ⟨#[]⟩,.string ⟨#[]⟩]:=by kernel_rfl
 have zA:=run_storeCells_cells (P:=prog) b o [.string ⟨#[]⟩,.string ⟨#[]⟩] 0 w (by simpa using hc) (by simpa using hf) (by intro v zB;simp at zB;rcases zB with rfl|rfl<;>rfl);simp only[Nat.add_zero] at zA;have zD:=Ra;simp[Builtin.clear_,run_underlying underlying29,zD,zC,zA]
theorem Kn (g cap i:Nat) (ss:List Pd) (w:World) (base:Nat) (ho:w.ownsRow base 108 2 (.slice (some ⟨g,0,none⟩) ss.length cap) ss.length (Ab pC ss)) (hl:ss.length<=600) (hi:i<ss.length):
 Calls prog 126 #[.slice (some ⟨g,0,none⟩) ss.length cap,.int .i64 i,.int .i64 ((i:Int)+1)] w fun e w'=>e=.returned (.slice (some ⟨g,0,none⟩) (ss.length -1) cap)/\w'.ownsRow base 108 2 (.slice (some ⟨g,0,none⟩) (ss.length -1) cap) (ss.length -1) (Ab pC (ss.eraseIdx i))/\w.grownBy w' (some g):=by
 obtain⟨i0,zF,zT,zM,zU⟩:=info_parts Jf;have zE:ss.length<=cap/\cap<=maxLen:=by
  rcases ho.2 with⟨e,_⟩|⟨g',zD,zI,e,hb,hg,h1,h2,h3,h4⟩
  ·cases e
  ·cases e;exact⟨h1,h2⟩
 obtain⟨zN,zJ⟩:=zE;unfold maxLen at zJ;have hcut:=Hx Bp ho i (by omega);obtain⟨A,hA,zB⟩:∃A,(if cap=i+1 then some (⟨g,0,none⟩:Addr) else some ⟨g,(i+1) *2,none⟩)=some A/\∀j u,(Ab pC (ss.drop (i+1)))[j]?=some u->w.drew.cell? (A.add j)=some u:=by
  by_cases h:cap=i+1
  ·refine⟨⟨g,0,none⟩,by rw[if_pos h],fun j u hu=> ?_⟩
   rw[List.drop_of_length_le (by omega)] at hu;simp[Ab] at hu
  ·refine⟨⟨g,(i+1) *2,none⟩,by rw[if_neg h],fun j u hu=> ?_⟩
   rw[Go.WideShapes.add_plain];rw[←DH Bp ss (i+1) (by omega),List.getElem?_drop] at hu;have zL:=(Ut hu).1;rw[Bb Bp] at zL;exact(ho.cellAt _ (by omega)).trans hu
 obtain⟨w1,hr,zA,zC⟩:=run_append_fits (P:=prog) w.drew base 29 29 108 i0 2 underlying29 zF zM g i cap (Ab pC (ss.take i)) hcut A (ss.length -(i+1)) (cap -(i+1)) (Ab pC (ss.drop (i+1))) (by rw[Bb Bp,List.length_drop]) zB (Hr _) (by omega);rw[←AT,show i+(ss.length -(i+1))=ss.length -1 by omega] at zA;rw[show i+(ss.length -(i+1))=ss.length -1 by omega] at hr
 have zG:=(List.eraseIdx_eq_take_drop_succ ss i).symm;rw[zG] at zA;have HO:Hid _:=And.intro zA zC;clear zB zA hcut zG;go_enter func126,ntmps126;have zO:¬((i:Int)==(i:Int)+1)=true:=by simp;omega
 have zP:i<=cap:=by omega
 have zQ:(0:Int)<=(i:Int)+1:=by omega
 have zR:(i:Int)+1<=(ss.length:Int):=by omega
 have zS:((i:Int)+1).toNat=i+1:=by omega
 go_upto_region 5 with fail
 go_region_law (first
  |(refine BB (by rfl) (.tmp 22) (.tmp 25) 29 29 (by rfl) (by rfl) (by simp[Act.eval,Act.put]) hr ?_))
 all_goals
  have zH:∀j,j<2->(w1.cell? ⟨g,(ss.length -1) *2+j,none⟩).isSome=true/\w1.frozen? ⟨g,(ss.length -1) *2+j,none⟩=false:=fun j hj=>by
   obtain⟨zA,zC⟩:=HO.o;rcases zA.2 with⟨e,_⟩|⟨g',zD,zI,e,hb,hg,h1,h2,h3,h4⟩
   ·cases e
   ·cases e
    constructor
    ·simp only[World.cell?,hg]
     rw[Array.getElem?_eq_getElem (by omega)];rfl
    ·exact zA.frozenAt _
  have zK:=Km w1 0 g ((ss.length -1) *2) (cap -(ss.length -1)) (fun j hj=>(zH j hj).1) (fun j hj=>(zH j hj).2);have e1:ss.length -(ss.length -1)=1:=by omega
  have e2:¬cap=ss.length -1:=by omega
  have e3:ss.length -1<=ss.length:=by omega
  go_wp2;go_ret;obtain⟨zA,zC⟩:=HO.o;exact⟨rfl,EX _ _ _ zA (Us),Aw (Cl zC) (Bl g _ _ _)⟩
theorem JO (w:World):(zeroValue 111).run prog w=.ok (.agg #[.int .i64 0,.string ⟨#[]⟩,.int .i64 0]) w:=by kernel_rfl
theorem IB (w:World) (ty:TypeId) (b o c:Nat) (hc:∀j,j<3->(w.cell? ⟨b,o+j,none⟩).isSome=true) (hf:∀j,j<3->w.frozen? ⟨b,o+j,none⟩=false):
 (Builtin.clear_ #[30] ty #[.slice (some ⟨b,o,none⟩) 1 c]).run prog w=.ok (.tuple #[]) (w.setCells b o [.int .i64 0,.string ⟨#[]⟩,.int .i64 0]):=by
 have zC:(Builtin.zeroCells (Value.agg #[.int .i64 0,.string ⟨#[]⟩,.int .i64 0]).cells 1).toList=[.int .i64 0,.string ⟨#[]⟩,.int .i64 0]:=by kernel_rfl
 have zA:=run_storeCells_cells (P:=prog) b o [.int .i64 0,.string ⟨#[]⟩,.int .i64 0] 0 w (by simpa using hc) (by simpa using hf) (by intro v zB;simp at zB;rcases zB with rfl|rfl|rfl<;>rfl);simp only[Nat.add_zero] at zA;have zD:=JO;simp[Builtin.clear_,run_underlying underlying30,zD,zC,zA]
theorem IC (g cap i:Nat) (ss:List Ld) (w:World) (base:Nat) (ho:w.ownsRow base 111 3 (.slice (some ⟨g,0,none⟩) ss.length cap) ss.length (Ab lC ss)) (hl:ss.length<=600) (hi:i<ss.length):
 Calls prog 130 #[.slice (some ⟨g,0,none⟩) ss.length cap,.int .i64 i,.int .i64 ((i:Int)+1)] w fun e w'=>e=.returned (.slice (some ⟨g,0,none⟩) (ss.length -1) cap)/\w'.ownsRow base 111 3 (.slice (some ⟨g,0,none⟩) (ss.length -1) cap) (ss.length -1) (Ab lC (ss.eraseIdx i))/\w.grownBy w' (some g):=by
 obtain⟨i0,zF,zT,zM,zU⟩:=info_parts Gp;have zE:ss.length<=cap/\cap<=maxLen:=by
  rcases ho.2 with⟨e,_⟩|⟨g',zD,zI,e,hb,hg,h1,h2,h3,h4⟩
  ·cases e
  ·cases e;exact⟨h1,h2⟩
 obtain⟨zN,zJ⟩:=zE;unfold maxLen at zJ;have hcut:=Hx Cj ho i (by omega);obtain⟨A,hA,zB⟩:∃A,(if cap=i+1 then some (⟨g,0,none⟩:Addr) else some ⟨g,(i+1) *3,none⟩)=some A/\∀j u,(Ab lC (ss.drop (i+1)))[j]?=some u->w.drew.cell? (A.add j)=some u:=by
  by_cases h:cap=i+1
  ·refine⟨⟨g,0,none⟩,by rw[if_pos h],fun j u hu=> ?_⟩
   rw[List.drop_of_length_le (by omega)] at hu;simp[Ab] at hu
  ·refine⟨⟨g,(i+1) *3,none⟩,by rw[if_neg h],fun j u hu=> ?_⟩
   rw[Go.WideShapes.add_plain];rw[←DH Cj ss (i+1) (by omega),List.getElem?_drop] at hu;have zL:=(Ut hu).1;rw[Bb Cj] at zL;exact(ho.cellAt _ (by omega)).trans hu
 obtain⟨w1,hr,zA,zC⟩:=run_append_fits (P:=prog) w.drew base 30 30 111 i0 3 underlying30 zF zM g i cap (Ab lC (ss.take i)) hcut A (ss.length -(i+1)) (cap -(i+1)) (Ab lC (ss.drop (i+1))) (by rw[Bb Cj,List.length_drop]) zB (Sb _) (by omega);rw[←AT,show i+(ss.length -(i+1))=ss.length -1 by omega] at zA;rw[show i+(ss.length -(i+1))=ss.length -1 by omega] at hr
 have zG:=(List.eraseIdx_eq_take_drop_succ ss i).symm;rw[zG] at zA;have HO:Hid _:=And.intro zA zC;clear zB zA hcut zG;go_enter func130,ntmps130;have zO:¬((i:Int)==(i:Int)+1)=true:=by simp;omega
 have zP:i<=cap:=by omega
 have zQ:(0:Int)<=(i:Int)+1:=by omega
 have zR:(i:Int)+1<=(ss.length:Int):=by omega
 have zS:((i:Int)+1).toNat=i+1:=by omega
 go_upto_region 5 with fail
 go_region_law (first
  |(refine BB (by rfl) (.tmp 22) (.tmp 25) 30 30 (by rfl) (by rfl) (by simp[Act.eval,Act.put]) hr ?_))
 all_goals
  have zH:∀j,j<3->(w1.cell? ⟨g,(ss.length -1) *3+j,none⟩).isSome=true/\w1.frozen? ⟨g,(ss.length -1) *3+j,none⟩=false:=fun j hj=>by
   obtain⟨zA,zC⟩:=HO.o;rcases zA.2 with⟨e,_⟩|⟨g',zD,zI,e,hb,hg,h1,h2,h3,h4⟩
   ·cases e
   ·cases e
    constructor
    ·simp only[World.cell?,hg]
     rw[Array.getElem?_eq_getElem (by omega)];rfl
    ·exact zA.frozenAt _
  have zK:=IB w1 0 g ((ss.length -1) *3) (cap -(ss.length -1)) (fun j hj=>(zH j hj).1) (fun j hj=>(zH j hj).2);have e1:ss.length -(ss.length -1)=1:=by omega
  have e2:¬cap=ss.length -1:=by omega
  have e3:ss.length -1<=ss.length:=by omega
  go_wp2;go_ret;obtain⟨zA,zC⟩:=HO.o;exact⟨rfl,EX _ _ _ zA (Us),Aw (Cl zC) (Bl g _ _ _)⟩
def CB (x y:Int):Int:=if x<y then -1 else if y<x then 1 else 0
theorem Lm (x y:Int):CB x y<0↔x<y:=by unfold CB;split<;>(try split)<;>omega
theorem JP (x y:Int):CB x y=0↔x=y:=by unfold CB;split<;>(try split)<;>omega
theorem Ln (x:Int) (w:World):Calls prog 157 #[.int .i64 x] w fun e w'=>e=.returned (.bool false)/\w'=w:=by
 have hq:(x !=x)=false:=by simp
 go_enter func157,ntmps157;go_wp2;go_ret;exact⟨rfl,rfl⟩
theorem PA (x y:Int) (w:World):Calls prog 129 #[.int .i64 x,.int .i64 y] w fun e w'=>e=.returned (.int .i64 (CB x y))/\w'=w:=by
 go_enter func129,ntmps129;go_wp2_with fail;refine(Ln x w).mono ?_;rintro e w1 ⟨rfl,rfl⟩;go_wp2_with fail;refine(Ln y w1).mono ?_;rintro e w2 ⟨rfl,rfl⟩;by_cases h1:x<y
 ·have hd:decide (x<y)=true:=by simpa using h1
  have hv:CB x y= -1:=by unfold CB;rw[if_pos h1]
  clear h1;go_wp2;go_ret;exact⟨by rw[hv];rfl,rfl⟩
 ·have hd:decide (x<y)=false:=by simpa using h1
  by_cases h2:y<x
  ·have zA:decide (y<x)=true:=by simpa using h2
   have hv:CB x y=1:=by unfold CB;rw[if_neg h1,if_pos h2]
   clear h1 h2;go_wp2;go_ret;exact⟨by rw[hv];rfl,rfl⟩
  ·have zA:decide (y<x)=false:=by simpa using h2
   have hv:CB x y=0:=by unfold CB;rw[if_neg h1,if_neg h2]
   clear h1 h2;go_wp2;go_ret;exact⟨by rw[hv];rfl,rfl⟩
def CZ (x y:ByteArray):Int:=if less x y=true then -1 else if x=y then 0 else 1
theorem Lo (x y:ByteArray):CZ x y<0↔less x y=true:=by
 unfold CZ;by_cases h:less x y=true
 ·rw[if_pos h];exact⟨fun _=>h,fun _=>by omega⟩
 ·rw[if_neg h]
  refine⟨fun e=> ?_,fun e=>absurd e h⟩;split at e<;>omega
theorem Gu (x y:ByteArray):CZ x y=0↔x=y:=by
 unfold CZ;by_cases h:less x y=true
 ·rw[if_pos h]
  refine⟨fun e=>by omega,fun e=> ?_⟩;rw[e,BL] at h;cases h
 ·rw[if_neg h]
  split
  ·rename_i h2;exact⟨fun _=>h2,fun _=>rfl⟩
  ·rename_i h2;exact⟨fun e=>by omega,fun e=>absurd e h2⟩
theorem Lp (x:ByteArray) (w:World):Calls prog 168 #[.string x] w fun e w'=>e=.returned (.bool false)/\w'=w:=by
 have hq:(x.toList !=x.toList)=false:=by simp
 go_enter func168,ntmps168;go_wp2;go_ret;exact⟨rfl,rfl⟩
theorem PB (x y:ByteArray) (w:World):Calls prog 154 #[.string x,.string y] w fun e w'=>e=.returned (.int .i64 (CZ x y))/\w'=w:=by
 go_enter func154,ntmps154;go_wp2_with fail;refine(Lp x w).mono ?_;rintro e w1 ⟨rfl,rfl⟩;go_wp2_with fail;refine(Lp y w1).mono ?_;rintro e w2 ⟨rfl,rfl⟩;cases h1:Op.bytesLess x.toList y.toList with
 |true=>
  have HV:Hid (CZ x y= -1):=by show _=_;unfold CZ less;rw[if_pos h1]
  go_wp2;go_ret;exact⟨by rw[HV.o];rfl,rfl⟩
 |false=>
  by_cases h2:x=y
  ·have HV:Hid _:=(Gu x y).2 h2
   have hq:(x.toList==y.toList)=true:=by rw[h2];simp
   clear h2;go_wp2;go_ret;exact⟨by rw[HV.o];rfl,rfl⟩
  ·have HV:Hid (CZ x y=1):=by show _=_;unfold CZ less;rw[if_neg (by rw[h1];simp),if_neg h2]
   have hq:=Ck h2;clear h2;go_wp2;go_ret;exact⟨by rw[HV.o];rfl,rfl⟩
theorem JQ (x:Ld) (n:Int) (w:World):Calls prog 128 #[.agg #[.int .i64 x.num,.string x.sum,.int .i64 x.til],.int .i64 n] w fun e w'=>e=.returned (.int .i64 (CB x.num n))/\Uq w w':=by
 have hA:∀o,Uq w (w.alloc o):=fun o=>Ur;go_enter func128,ntmps128;go_wp2_with fail;refine(PA x.num n _).mono ?_;rintro e w1 ⟨rfl,rfl⟩;go_wp2;go_ret;exact⟨rfl,hA _⟩
theorem ID (x:Pd) (n:ByteArray) (w:World):Calls prog 153 #[.agg #[.string x.name,.string x.sum],.string n] w fun e w'=>e=.returned (.int .i64 (CZ x.name n))/\Uq w w':=by
 have hA:∀o,Uq w (w.alloc o):=fun o=>Ur;go_enter func153,ntmps153;go_wp2_with fail;refine(PB x.name n _).mono ?_;rintro e w1 ⟨rfl,rfl⟩;go_wp2;go_ret;exact⟨rfl,hA _⟩
structure Gv (ls:List Ld) (n:Int) (i:Nat):Prop where
 le:i<=ls.length
 lo:∀j x,j<i->ls[j]?=some x->x.num<n
 hi:∀j x,i<=j->ls[j]?=some x->n<=x.num
theorem Fi (g cap:Nat) (ls:List Ld) (n:Int) (w:World) (base:Nat) (ho:w.ownsRow base 111 3 (.slice (some ⟨g,0,none⟩) ls.length cap) ls.length (Ab lC ls)) (hl:ls.length<=600) (zB:ls.Pairwise (fun a b=>a.num<b.num)):
 Calls prog 127 #[.slice (some ⟨g,0,none⟩) ls.length cap,.int .i64 n,.func (.func 128) #[] #[]] w fun e w'=>∃i:Nat,e=.returned (.tuple #[.int .i64 i,.bool (decide (∃x,ls[i]?=some x/\x.num=n))])/\Gv ls n i/\Uq w w':=by
 have zK:=(Af ho rfl).2;have HO:Hid _:=ho;have HR:Hid (∀(X:World),Uq w X->∀k x,ls[k]?=some x->X.cell? ⟨g,k *3,none⟩=some (.int .i64 x.num)/\X.cell? ⟨g,k *3+1,none⟩=some (.string x.sum)/\X.cell? ⟨g,k *3+2,none⟩=some (.int .i64 x.til)):=fun X hX k x hx=>by
  have h:=Ag ho hX;have hk:=(Ut hx).1;have hc:∀j,j<3->X.cell? ⟨g,k *3+j,none⟩=(lC x)[j]?:=fun j hj=>(h.cellAt (k *3+j) (by omega)).trans (Cf Cj hx hj);exact⟨by simpa [lC] using hc 0 (by decide),by simpa [lC] using hc 1 (by decide),by simpa [lC] using hc 2 (by decide)⟩
 have HS:Hid _:=zB;clear ho zB;go_enter func127,ntmps127;have zJ:=enters_of func128 (by kernel_rfl) rfl;go_wp2
 go_loopw [9,10] (fun i j wr=>∃lo hi:Nat,i=.int .i64 lo/\j=.int .i64 hi/\lo<=hi/\hi<=ls.length/\Hid ((∀j x,j<lo->ls[j]?=some x->x.num<n)/\(∀j x,hi<=j->ls[j]?=some x->n<=x.num))/\Uq w wr) (fun i j _=>(intOf j).toNat -(intOf i).toNat)
 case atStart=>exact⟨0,ls.length,rfl,rfl,Nat.zero_le _,Us,⟨fun j x h=>by omega,fun j x h hx=>by have:=(Ut hx).1;omega⟩,Below.refl _ _⟩
 case round=>
  obtain⟨lo,hi,rfl,rfl,zL,zF,HI,zA⟩:=hrel;have zG:=zA.size;by_cases hlt:lo<hi
  ·have zE:(lo+hi)/2<ls.length:=by omega
   have HG:Hid _:=Uu zE;generalize ls[(lo+hi)/2]=x at *
   obtain⟨r0,r1,r2⟩:=HR.o wr zA _ _ HG.o;go_wp2_with fail;refine(JQ x n wr).mono ?_;rintro e w1 ⟨rfl,zD⟩;have zC:=zA.trans (zD.mono zG);clear r0 r1 r2;by_cases hc:x.num<n
   ·have hd:decide (CB x.num n<0)=true:=by simpa using (Lm _ _).2 hc
    have HC:Hid _:=hc;clear hc;generalize CB x.num n=cv at *
    go_wp2;refine⟨⟨(lo+hi)/2+1,hi,by go_num,rfl,by omega,zF,⟨?_,HI.o.2⟩,zC⟩,by simp[intOf];omega⟩;intro j y hj hy;rcases Nat.lt_or_ge j ((lo+hi)/2) with h|h
    ·have:=List.pairwise_iff_getElem.1 HS.o j ((lo+hi)/2) (by omega) zE h
     obtain⟨_,rfl⟩:=Ut hy;obtain⟨_,e⟩:=Ut HG.o;rw[e] at this;have h3:=HC.o;omega
    ·obtain rfl:j=(lo+hi)/2:=by omega
     rw[HG.o] at hy;cases hy;exact HC.o
   ·have hd:decide (CB x.num n<0)=false:=by simpa using fun e=>hc ((Lm _ _).1 e)
    have HC:Hid _:=Int.not_lt.1 hc;clear hc;generalize CB x.num n=cv at *
    go_wp2;refine⟨⟨lo,(lo+hi)/2,rfl,by go_num,by omega,by omega,⟨HI.o.1,?_⟩,zC⟩,by simp[intOf];omega⟩;intro j y hj hy;rcases Nat.lt_or_ge ((lo+hi)/2) j with h|h
    ·have zH:=(Ut hy).1
     have:=List.pairwise_iff_getElem.1 HS.o ((lo+hi)/2) j zE zH h;obtain⟨_,rfl⟩:=Ut hy;obtain⟨_,e⟩:=Ut HG.o;rw[e] at this;have h3:=HC.o;omega
    ·obtain rfl:j=(lo+hi)/2:=by omega
     rw[HG.o] at hy;cases hy;exact HC.o
  ·obtain rfl:lo=hi:=by omega
   have HP:Hid (Gv ls n lo):=⟨zF,HI.o.1,HI.o.2⟩;by_cases hn:lo<ls.length
   ·have HG:Hid _:=Uu hn
    generalize ls[lo]=x at *
    obtain⟨r0,r1,r2⟩:=HR.o wr zA _ _ HG.o;have zI:(lo:Int)<ls.length:=by omega
    go_wp2_with fail;refine(JQ x n wr).mono ?_;rintro e w1 ⟨rfl,zD⟩;have zC:=zA.trans (zD.mono zG);clear r0 r1 r2;have HD:Hid (decide (∃y,ls[lo]?=some y/\y.num=n)=(CB x.num n==0)):=by
     show _=_;rw[HG.o];by_cases h:x.num=n
     ·rw[(JP x.num n).2 h]
      simp[h]
     ·have h0:¬CB x.num n=0:=fun e=>h ((JP x.num n).1 e)
      rw[show(CB x.num n==0)=false by simpa using h0];simp[h]
    generalize CB x.num n=cv at *
    go_wp2
    go_ret2
    exact⟨lo,by rw[HD.o];first|rfl|simp[Act.put],HP.o,zC⟩
   ·have HD:Hid (decide (∃y,ls[lo]?=some y/\y.num=n)=false):=by
     show _=_;rw[List.getElem?_eq_none (by omega)];simp
    have zI:¬((lo:Int)<ls.length):=by omega
    go_wp2
    go_ret2
    exact⟨lo,by rw[HD.o];first|rfl|simp[Act.put],HP.o,zA⟩
structure CC (ls:List Pd) (n:ByteArray) (i:Nat):Prop where
 le:i<=ls.length
 lo:∀j x,j<i->ls[j]?=some x->less x.name n=true
 hi:∀j x,i<=j->ls[j]?=some x->less x.name n=false
theorem Ga (g cap:Nat) (ls:List Pd) (n:ByteArray) (w:World) (base:Nat) (ho:w.ownsRow base 108 2 (.slice (some ⟨g,0,none⟩) ls.length cap) ls.length (Ab pC ls)) (hl:ls.length<=600) (zB:ls.Pairwise (fun a b=>less a.name b.name=true)):
 Calls prog 152 #[.slice (some ⟨g,0,none⟩) ls.length cap,.string n,.func (.func 153) #[] #[]] w fun e w'=>∃i:Nat,e=.returned (.tuple #[.int .i64 i,.bool (decide (∃x,ls[i]?=some x/\x.name=n))])/\CC ls n i/\Uq w w':=by
 have zK:=(Af ho rfl).2;have HO:Hid _:=ho;have HR:Hid (∀(X:World),Uq w X->∀k x,ls[k]?=some x->X.cell? ⟨g,k *2,none⟩=some (.string x.name)/\X.cell? ⟨g,k *2+1,none⟩=some (.string x.sum)):=fun X hX k x hx=>by
  have h:=Ag ho hX;have hk:=(Ut hx).1;have hc:∀j,j<2->X.cell? ⟨g,k *2+j,none⟩=(pC x)[j]?:=fun j hj=>(h.cellAt (k *2+j) (by omega)).trans (Cf Bp hx hj);exact⟨by simpa [pC] using hc 0 (by decide),by simpa [pC] using hc 1 (by decide)⟩
 have HS:Hid _:=zB;clear ho zB;go_enter func152,ntmps152;have zJ:=enters_of func153 (by kernel_rfl) rfl;go_wp2
 go_loopw [9,10] (fun i j wr=>∃lo hi:Nat,i=.int .i64 lo/\j=.int .i64 hi/\lo<=hi/\hi<=ls.length/\Hid ((∀j x,j<lo->ls[j]?=some x->less x.name n=true)/\(∀j x,hi<=j->ls[j]?=some x->less x.name n=false))/\Uq w wr) (fun i j _=>(intOf j).toNat -(intOf i).toNat)
 case atStart=>exact⟨0,ls.length,rfl,rfl,Nat.zero_le _,Us,⟨fun j x h=>by omega,fun j x h hx=>by have:=(Ut hx).1;omega⟩,Below.refl _ _⟩
 case round=>
  obtain⟨lo,hi,rfl,rfl,zL,zF,HI,zA⟩:=hrel;have zG:=zA.size;by_cases hlt:lo<hi
  ·have zE:(lo+hi)/2<ls.length:=by omega
   have HG:Hid _:=Uu zE;generalize ls[(lo+hi)/2]=x at *
   obtain⟨r0,r1⟩:=HR.o wr zA _ _ HG.o;go_wp2_with fail;refine(ID x n wr).mono ?_;rintro e w1 ⟨rfl,zD⟩;have zC:=zA.trans (zD.mono zG);clear r0 r1;by_cases hc:less x.name n=true
   ·have hd:decide (CZ x.name n<0)=true:=by simpa using (Lo _ _).2 hc
    have HC:Hid _:=hc;clear hc;generalize CZ x.name n=cv at *
    go_wp2;refine⟨⟨(lo+hi)/2+1,hi,by go_num,rfl,by omega,zF,⟨?_,HI.o.2⟩,zC⟩,by simp[intOf];omega⟩;intro j y hj hy;rcases Nat.lt_or_ge j ((lo+hi)/2) with h|h
    ·have:=List.pairwise_iff_getElem.1 HS.o j ((lo+hi)/2) (by omega) zE h
     obtain⟨_,rfl⟩:=Ut hy;obtain⟨_,e⟩:=Ut HG.o;rw[e] at this;exact BX this HC.o
    ·obtain rfl:j=(lo+hi)/2:=by omega
     rw[HG.o] at hy;cases hy;exact HC.o
   ·have hd:decide (CZ x.name n<0)=false:=by simpa using fun e=>hc ((Lo _ _).1 e)
    have HC:Hid (less x.name n=false):=by show _=_;simpa using hc
    clear hc;generalize CZ x.name n=cv at *
    go_wp2;refine⟨⟨lo,(lo+hi)/2,rfl,by go_num,by omega,by omega,⟨HI.o.1,?_⟩,zC⟩,by simp[intOf];omega⟩;intro j y hj hy;rcases Nat.lt_or_ge ((lo+hi)/2) j with h|h
    ·have zH:=(Ut hy).1
     have:=List.pairwise_iff_getElem.1 HS.o ((lo+hi)/2) j zE zH h;obtain⟨_,rfl⟩:=Ut hy;obtain⟨_,e⟩:=Ut HG.o;rw[e] at this;have h3:=HC.o;cases h':less ls[j].name n with
     |false=>rfl
     |true=>rw[BX this h'] at h3;cases h3
    ·obtain rfl:j=(lo+hi)/2:=by omega
     rw[HG.o] at hy;cases hy;exact HC.o
  ·obtain rfl:lo=hi:=by omega
   have HP:Hid (CC ls n lo):=⟨zF,HI.o.1,HI.o.2⟩;by_cases hn:lo<ls.length
   ·have HG:Hid _:=Uu hn
    generalize ls[lo]=x at *
    obtain⟨r0,r1⟩:=HR.o wr zA _ _ HG.o;have zI:(lo:Int)<ls.length:=by omega
    go_wp2_with fail;refine(ID x n wr).mono ?_;rintro e w1 ⟨rfl,zD⟩;have zC:=zA.trans (zD.mono zG);clear r0 r1;have HD:Hid (decide (∃y,ls[lo]?=some y/\y.name=n)=(CZ x.name n==0)):=by
     show _=_;rw[HG.o];by_cases h:x.name=n
     ·rw[(Gu x.name n).2 h]
      simp[h]
     ·have h0:¬CZ x.name n=0:=fun e=>h ((Gu x.name n).1 e)
      rw[show(CZ x.name n==0)=false by simpa using h0];simp[h]
    generalize CZ x.name n=cv at *
    go_wp2
    go_ret2
    exact⟨lo,by rw[HD.o];first|rfl|simp[Act.put],HP.o,zC⟩
   ·have HD:Hid (decide (∃y,ls[lo]?=some y/\y.name=n)=false):=by
     show _=_;rw[List.getElem?_eq_none (by omega)];simp
    have zI:¬((lo:Int)<ls.length):=by omega
    go_wp2
    go_ret2
    exact⟨lo,by rw[HD.o];first|rfl|simp[Act.put],HP.o,zA⟩
theorem Gw {w:World} {base:Nat} {e:TypeId} {size:Nat} {v:Value} {n:Nat} {xs:List Value} (h:w.ownsRow base e size v n xs) (hn:0<n):∃g cap,v=.slice (some ⟨g,0,none⟩) n cap:=by
 rcases h.2 with⟨_,hz⟩|⟨g,cap,zA,rfl,_⟩
 ·omega
 ·exact⟨g,cap,rfl⟩
theorem Gv.at {ls:List Ld} {n:Int} {i:Nat} (h:Gv ls n i) (zD:∃x∈ls,x.num=n) (zA:ls.Pairwise (fun a b=>a.num<b.num)):∃x,ls[i]?=some x/\x.num=n:=by
 obtain⟨x,hx,hn⟩:=zD;obtain⟨j,hj⟩:=List.getElem?_of_mem hx;have zC:=(Ut hj).1;have zB:i=j:=by
  rcases Nat.lt_trichotomy i j with h'|h'|h'
  ·have h1:=h.hi i ls[i] (Us) (Uu (by omega))
   have h2:=List.pairwise_iff_getElem.1 zA i j (by omega) zC h';obtain⟨_,e⟩:=Ut hj;rw[e] at h2;omega
  ·exact h'
  ·have:=h.lo j x h' hj
   omega
 exact⟨x,zB▸hj,hn⟩
theorem CC.at {ls:List Pd} {n:ByteArray} {i:Nat} (h:CC ls n i) (zD:∃x∈ls,x.name=n) (zA:ls.Pairwise (fun a b=>less a.name b.name=true)):∃x,ls[i]?=some x/\x.name=n:=by
 obtain⟨x,hx,hn⟩:=zD;obtain⟨j,hj⟩:=List.getElem?_of_mem hx;have zC:=(Ut hj).1;have zB:i=j:=by
  rcases Nat.lt_trichotomy i j with h'|h'|h'
  ·have h1:=h.hi i ls[i] (Us) (Uu (by omega))
   have h2:=List.pairwise_iff_getElem.1 zA i j (by omega) zC h';obtain⟨_,e⟩:=Ut hj;rw[e,hn] at h2;rw[h2] at h1;cases h1
  ·exact h'
  ·have:=h.lo j x h' hj
   rw[hn,BL] at this;cases this
 exact⟨x,zB▸hj,hn⟩
def IE (ls:List Ld) (n:Int):List Ld:=ls.filter (fun x=> !decide (x.num=n))
def Gx (ps:List Pd) (n:ByteArray):List Pd:=ps.filter (fun x=> !decide (x.name=n))
theorem EY {A:Type} {q:A->Bool}:∀{xs:List A} {i:Nat} {x:A},xs[i]?=some x->q x=false->(∀j y,xs[j]?=some y->j≠i->q y=true)->xs.filter q=xs.eraseIdx i
 |[],i,x,hx,_,_=>by simp at hx
 |y::ys,0,x,hx,hq,ho=>by
  simp only[List.getElem?_cons_zero,Option.some.injEq] at hx;subst hx;rw[List.filter_cons,hq,List.eraseIdx_cons_zero];simp only[Bool.false_eq_true,if_false];exact List.filter_eq_self.2 (fun z hz=>by
   obtain⟨j,hj⟩:=List.getElem?_of_mem hz;exact ho (j+1) z (by simpa using hj) (by omega))
 |y::ys,i+1,x,hx,hq,ho=>by
  have hy:=ho 0 y (by simp) (by omega);rw[List.filter_cons,hy,List.eraseIdx_cons_succ];simp only[if_true];rw[EY (i:=i) (x:=x) (by simpa using hx) hq (fun j z hj hne=>ho (j+1) z (by simpa using hj) (by omega))]
theorem Md {ls:List Ld} {n:Int} {i:Nat} {x:Ld} (hx:ls[i]?=some x) (hn:x.num=n) (zA:ls.Pairwise (fun a b=>a.num<b.num)):IE ls n=ls.eraseIdx i:=by
 refine EY hx (by simp[hn]) (fun j y hj hne=> ?_);have zB:=(Ut hx).1;have zC:=(Ut hj).1;obtain⟨_,e1⟩:=Ut hx;obtain⟨_,e2⟩:=Ut hj;rcases Nat.lt_or_gt_of_ne hne with h|h
 ·have:=List.pairwise_iff_getElem.1 zA j i zC zB h
  rw[e1,e2] at this;simp;omega
 ·have:=List.pairwise_iff_getElem.1 zA i j zB zC h
  rw[e1,e2] at this;simp;omega
theorem Lq {ls:List Pd} {n:ByteArray} {i:Nat} {x:Pd} (hx:ls[i]?=some x) (hn:x.name=n) (zA:ls.Pairwise (fun a b=>less a.name b.name=true)):Gx ls n=ls.eraseIdx i:=by
 refine EY hx (by simp[hn]) (fun j y hj hne=> ?_);have zC:=(Ut hx).1;have zD:=(Ut hj).1;obtain⟨_,e1⟩:=Ut hx;obtain⟨_,e2⟩:=Ut hj;have zB:y.name≠n:=fun e=>by
  rcases Nat.lt_or_gt_of_ne hne with h|h
  ·have:=List.pairwise_iff_getElem.1 zA j i zD zC h
   rw[e1,e2,e,hn,BL] at this;cases this
  ·have:=List.pairwise_iff_getElem.1 zA i j zC zD h
   rw[e1,e2,e,hn,BL] at this;cases this
 simpa using zB
theorem PC (base d m:Nat) (O P L:Value) (wd now given births:Int) (ks:List Kd) (ps:List Pd) (ls:List Ld) (n:Int) (w:World) (h:DU w base d m O P L wd now given births ks ps ls) (hl:ls.length<=200) (zB:ls.Pairwise (fun a b=>a.num<b.num)) (zL:∃x∈ls,x.num=n):
 Calls prog 91 #[.pointer (some ⟨d,0,none⟩),.int .i64 n] w fun e w'=>e=.returned (.tuple #[])/\∃L',DU w' base d m O P L' wd now given births ks ps (IE ls n)/\Tn (d::L.ownBlock.toList) w w':=by
 have zK:0<ls.length:=by obtain⟨x,hx,_⟩:=zL;exact List.length_pos_of_mem hx
 obtain⟨g,cap,zT⟩:=Gw h.dr.lea zK;subst zT;have HD:Hid _:=h;have zH:Hid _:=zB;have zN:Hid _:=zL;have HS:Hid _:=Fi g cap ls n w base h.dr.lea (by omega) zB;obtain⟨c7,_⟩:=h.dr.box 7 _ rfl;clear h zB zL;go_enter func91,ntmps91;go_wp2_with fail;refine Calls.mono HS.o ?_;rintro e w1 ⟨i,rfl,zR,zI⟩;obtain⟨x,zF,zM⟩:=zR.at zN.o zH.o;have zC:decide (∃x,ls[i]?=some x/\x.num=n)=true:=by simpa using ⟨x,zF,zM⟩
 have zO:=(Ut zF).1;have HE:Hid _:=Md zF zM zH.o;have zE:=HD.o.below zI;have zD:Hid _:=zE;have zS:Hid _:=zI;have zG:Hid _:=IC g cap i ls w1 base zE.dr.lea (by omega) zO;obtain⟨e7,_⟩:=zE.dr.box 7 _ rfl;rw[zC];clear zC zF zM zR zE zI HD HS zN zH c7;go_wp2_with fail;refine Calls.mono zG.o ?_;rintro e w2 ⟨rfl,zQ,zJ⟩
 have zP:∀b,(Value.slice (some ⟨g,0,none⟩) (ls.length -1) cap).ownBlock=some b->b≠d:=fun b hb=>((Cm zD.o.dr.ap).2.2.2 b hb).1;have zA:=Aa.same zD.o.dr.box (zJ.block d zD.o.dr.box.lt (fun e=>zP g rfl (Option.some.inj e).symm));obtain⟨f7,k7⟩:=zA 7 _ rfl
 have hK:∃L',DU (w2.setCell ⟨d,7,none⟩ (.slice (some ⟨g,0,none⟩) (ls.length -1) cap)) base d m O P L' wd now given births ks ps (IE ls n)/\Tn (d::(Value.slice (some ⟨g,0,none⟩) ls.length cap).ownBlock.toList) w (w2.setCell ⟨d,7,none⟩ (.slice (some ⟨g,0,none⟩) (ls.length -1) cap)):=by
  have t1:Tn (d::(Value.slice (some ⟨g,0,none⟩) ls.length cap).ownBlock.toList) w1 (w2.setCell ⟨d,7,none⟩ (.slice (some ⟨g,0,none⟩) (ls.length -1) cap)):=
   ((CO zJ).mono (by intro b hb;simp[Value.ownBlock] at hb ⊢;exact .inr hb)).trans ((Gt w2 d 7 _).mono (by simp))
  refine⟨_,zD.o.newL t1 (zA.set 7 _) ?_ (.inl rfl),(Tn.of zS.o).trans t1⟩;rw[HE.o,List.length_eraseIdx,if_pos zO];exact BF zQ zP 7 _
 have HK:Hid _:=hK;clear hK zQ zJ zA e7;go_wp2
 go_end0
 exact⟨rfl,HK.o⟩
theorem Gy (base d m:Nat) (O L:Value) (g cap:Nat) (wd now given births:Int) (ks:List Kd) (ps:List Pd) (ls:List Ld) (n:ByteArray) (w:World) (h:DU w base d m O (.slice (some ⟨g,0,none⟩) ps.length cap) L wd now given births ks ps ls) (hl:ps.length<=200) (zA:ps.Pairwise (fun a b=>less a.name b.name=true)):
 Calls prog 124 #[.pointer (some ⟨d,0,none⟩),.string n] w fun e w'=>∃i:Nat,e=.returned (.tuple #[.int .i64 i,.bool (decide (∃x,ps[i]?=some x/\x.name=n))])/\CC ps n i/\Uq w w':=by
 have HS:Hid _:=Ga g cap ps n w base h.dr.pin (by omega) zA;obtain⟨c6,_⟩:=h.dr.box 6 _ rfl;clear h zA;go_enter func124,ntmps124;go_wp2_with fail;refine Calls.mono HS.o ?_;rintro e w1 ⟨i,rfl,zE,zD⟩;obtain⟨bb,zB⟩:∃bb,decide (∃x,ps[i]?=some x/\x.name=n)=bb:=⟨_,rfl⟩;have zC:Hid _:=zB;rw[zB];clear zB;go_wp2
 go_ret2
 exact⟨i,by rw[zC.o];rfl,zE,zD⟩
theorem Ok (base d m:Nat) (O P L:Value) (wd now given births:Int) (ks:List Kd) (ps:List Pd) (ls:List Ld) (n:ByteArray) (w:World) (h:DU w base d m O P L wd now given births ks ps ls) (hl:ps.length<=200) (zB:ps.Pairwise (fun a b=>less a.name b.name=true)) (zL:∃x∈ps,x.name=n):
 Calls prog 90 #[.pointer (some ⟨d,0,none⟩),.string n] w fun e w'=>e=.returned (.tuple #[])/\∃P',DU w' base d m O P' L wd now given births ks (Gx ps n) ls/\Tn (d::P.ownBlock.toList) w w':=by
 have zK:0<ps.length:=by obtain⟨x,hx,_⟩:=zL;exact List.length_pos_of_mem hx
 obtain⟨g,cap,zT⟩:=Gw h.dr.pin zK;subst zT;have HD:Hid _:=h;have zH:Hid _:=zB;have zN:Hid _:=zL;have HS:Hid _:=Gy base d m O L g cap wd now given births ks ps ls n w h hl zB;clear h zB zL;go_enter func90,ntmps90;go_wp2_with fail;refine Calls.mono HS.o ?_;rintro e w1 ⟨i,rfl,zR,zI⟩;obtain⟨x,zF,zM⟩:=zR.at zN.o zH.o;have zC:decide (∃x,ps[i]?=some x/\x.name=n)=true:=by simpa using ⟨x,zF,zM⟩
 have zO:=(Ut zF).1;have HE:Hid _:=Lq zF zM zH.o;have zE:=HD.o.below zI;have zD:Hid _:=zE;have zS:Hid _:=zI;have zG:Hid _:=Kn g cap i ps w1 base zE.dr.pin (by omega) zO;obtain⟨e6,_⟩:=zE.dr.box 6 _ rfl;rw[zC];clear zC zF zM zR zE zI HD HS zN zH;go_wp2_with fail;refine Calls.mono zG.o ?_;rintro e w2 ⟨rfl,zQ,zJ⟩
 have zP:∀b,(Value.slice (some ⟨g,0,none⟩) (ps.length -1) cap).ownBlock=some b->b≠d:=fun b hb=>((Cm zD.o.dr.ap).2.2.1 b hb).1;have zA:=Aa.same zD.o.dr.box (zJ.block d zD.o.dr.box.lt (fun e=>zP g rfl (Option.some.inj e).symm));obtain⟨f6,k6⟩:=zA 6 _ rfl
 have hK:∃P',DU (w2.setCell ⟨d,6,none⟩ (.slice (some ⟨g,0,none⟩) (ps.length -1) cap)) base d m O P' L wd now given births ks (Gx ps n) ls/\Tn (d::(Value.slice (some ⟨g,0,none⟩) ps.length cap).ownBlock.toList) w (w2.setCell ⟨d,6,none⟩ (.slice (some ⟨g,0,none⟩) (ps.length -1) cap)):=by
  have t1:Tn (d::(Value.slice (some ⟨g,0,none⟩) ps.length cap).ownBlock.toList) w1 (w2.setCell ⟨d,6,none⟩ (.slice (some ⟨g,0,none⟩) (ps.length -1) cap)):=
   ((CO zJ).mono (by intro b hb;simp[Value.ownBlock] at hb ⊢;exact .inr hb)).trans ((Gt w2 d 6 _).mono (by simp))
  refine⟨_,zD.o.newP t1 (zA.set 6 _) ?_ (.inl rfl),(Tn.of zS.o).trans t1⟩;rw[HE.o,List.length_eraseIdx,if_pos zO];exact BF zQ zP 6 _
 have HK:Hid _:=hK;clear hK zQ zJ zA e6;go_wp2
 go_end0
 exact⟨rfl,HK.o⟩
end Go.Proofs.YtflhhhnlhlaehaaGreatDoor
