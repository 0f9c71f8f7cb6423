import Derived.Test.YtpekbmegopfhfaaGreatDoorK07
set_option maxRecDepth 100000
set_option maxHeartbeats 16000000
namespace Go.Proofs.YtpekbmegopfhfaaGreatDoor
open Go.ChangeShapes Go.WideShapes Go.ChangeAt Go.RowKit _root_.Go.Proofs.Tryz
section
def NS (w:World) (b:Nat):Prop:=∀cur fz,w.heap[b]?≠some (.cells cur 9 fz)
theorem Du.move {w w':World} {base:Nat} {U V V':List Nat} {a:Option Addr} {ss:List ByteArray} (h:Du w base V a ss) (ht:Tn U w w') (hU:∀b∈U,b∈V∨(base<=b/\NS w b)) (hV:∀b∈V',b∈V∨w.heap.size<=b) (hm:V'[1]?=V[1]?:=by rfl):Du w' base V' a ss:=by
 rcases h with h|⟨b,off,ha,hb,hv,hx,hc⟩
 ·exact .inl h
 ·have zC:b∉U:=fun e=>by
   rcases hU b e with e|⟨e1,e2⟩
   ·exact hv e
   ·rcases hx with hx|⟨_,zB,hx⟩
    ·omega
    ·exact e2 zB _ hx
  have zA:=ht.block b hb zC;refine .inr ⟨b,off,ha,XH hb ht.size,fun e=> ?_,(by rw[zA];unfold SG;rw[hm];exact hx),fun i s hs=>(World.cell?_of_block (a:=⟨b,off+i,none⟩) zA).trans (hc i s hs)⟩;rcases hV b e with e|e
  ·exact hv e
  ·omega
theorem BC.move {w w':World} {base:Nat} {U V V':List Nat} {wd:Int} {ks:List Kd} {f:Lit->Option Value} (h:BC w base V wd ks f) (ht:Tn U w w') (hU:∀b∈U,b∈V∨(base<=b/\NS w b)) (hV:∀b∈V',b∈V∨w.heap.size<=b) (hm:V'[1]?=V[1]?:=by rfl):BC w' base V' wd ks f:=by
 intro s hs;rcases h s hs with h|⟨u,ra,rc,h1,h2,h3,h4⟩
 ·exact .inl h
 ·exact .inr ⟨u,ra,rc,h1,h2,h3,h4.move ht hU hV hm⟩
structure DU (w:World) (base d m:Nat) (O P L:Value) (wd now given births:Int) (ks:List Kd) (ps:List Pd) (ls:List Ld):Prop where
 dr:Dr w base d m O P L wd now given births ks ps ls
variable {w w':World} {base d m:Nat} {O P L:Value} {wd now given births:Int} {ks:List Kd} {ps:List Pd} {ls:List Ld}
theorem DU.lo (h:DU w base d m O P L wd now given births ks ps ls):base<=w.heap.size:=by
 have:=h.dr.bd;have:=h.dr.box.lt;omega
theorem DU.turn {V:List Nat} (h:DU w base d m O P L wd now given births ks ps ls) (ht:Tn V w w') (hV:∀b∈V,base<=b/\b∉vB d m O P L/\NS w b):DU w' base d m O P L wd now given births ks ps ls:=by
 have zA:=h.dr.lts;have hs:∀b∈vB d m O P L,w'.heap[b]?=w.heap[b]?:=fun b hb=>ht.block b (zA b hb) (fun e=>(hV b e).2.1 hb);obtain⟨n,f,h1,h2,h3⟩:=h.dr.map;have h:=h.dr
 exact⟨⟨Aa.same h.box (hs d (by simp[vB])),⟨n,f,h1,Bb.same h2 (hs m (by simp[vB])),h3.move ht (fun b hb=> .inr ⟨(hV b hb).1,(hV b hb).2.2⟩) (fun b hb=> .inl hb)⟩,Ah h.ord (fun g hg=>hs g (by simp[vB,hg])),Ah h.pin (fun g hg=>hs g (by simp[vB,hg])),Ah h.lea (fun g hg=>hs g (by simp[vB,hg])),h.bd,h.bm,h.ap⟩⟩
theorem DU.below (h:DU w base d m O P L wd now given births ks ps ls) (hb:Xz w w'):DU w' base d m O P L wd now given births ks ps ls:=
 h.turn (V:=[]) (Tn.of hb) (by simp)
theorem UA {d m n:Nat} {O P L L':Option Nat} (h:(d::m::(O.toList++(P.toList++L.toList))).Nodup) (zA:∀b∈d::m::(O.toList++(P.toList++L.toList)),b<n) (hL:L'=L∨∃g,L'=some g/\n<=g):(d::m::(O.toList++(P.toList++L'.toList))).Nodup:=by
 rcases hL with rfl|⟨g,rfl,hg⟩
 ·exact h
 ·cases O<;>cases P<;>cases L<;>simp_all<;>grind
theorem UB {d m n:Nat} {O P L P':Option Nat} (h:(d::m::(O.toList++(P.toList++L.toList))).Nodup) (zA:∀b∈d::m::(O.toList++(P.toList++L.toList)),b<n) (hL:P'=P∨∃g,P'=some g/\n<=g):(d::m::(O.toList++(P'.toList++L.toList))).Nodup:=by
 rcases hL with rfl|⟨g,rfl,hg⟩
 ·exact h
 ·cases O<;>cases P<;>cases L<;>simp_all<;>grind
theorem CR {d m:Nat} {O P L:Option Nat} (h:(d::m::(O.toList++(P.toList++L.toList))).Nodup):d≠m/\(∀g,O=some g->g≠d/\g≠m/\P≠some g/\L≠some g)/\(∀g,P=some g->g≠d/\g≠m/\L≠some g)/\(∀g,L=some g->g≠d/\g≠m):=by
 cases O<;>cases P<;>cases L<;>simp_all<;>grind
theorem DU.newL (h:DU w base d m O P L wd now given births ks ps ls) (ht:Tn (d::L.ownBlock.toList) w w') {L':Value} {zF:List Ld} {zB zA:Int} (zC:Aa w' d [XJ wd,.map (some m),XJ zB,XJ zA,XJ births,O,P,L']) (hl:w'.ownsRow base 137 3 L' zF.length (Ab lC zF)) (hb:L'.ownBlock=L.ownBlock∨∃g,L'.ownBlock=some g/\w.heap.size<=g):DU w' base d m O P L' wd zB zA births ks ps zF:=by
 obtain⟨a1,a2,a3,a4⟩:=CR h.dr.ap;obtain⟨n,f,m1,m2,m3⟩:=h.dr.map;have hU:∀b∈d::L.ownBlock.toList,b∈vB d m O P L:=by
  intro b hb;unfold vB;rcases List.mem_cons.1 hb with rfl|hb
  ·simp
  ·simp only[List.mem_cons,List.mem_append]
   exact .inr (.inr (.inr (.inr hb)))
 have hV:∀b∈vB d m O P L',b∈vB d m O P L∨w.heap.size<=b:=by
  intro b zE;unfold vB at zE ⊢;simp only[List.mem_cons,List.mem_append] at zE ⊢;rcases zE with e|e|e|e|e
  ·exact .inl (.inl e)
  ·exact .inl (.inr (.inl e))
  ·exact .inl (.inr (.inr (.inl e)))
  ·exact .inl (.inr (.inr (.inr (.inl e))))
  ·rcases hb with hb|⟨g,hg,zG⟩
   ·rw[hb] at e
    exact .inl (.inr (.inr (.inr (.inr e))))
   ·rw[hg] at e
    simp at e;exact .inr (by omega)
 refine⟨⟨zC,⟨n,f,m1,Bb.same m2 (ht.block m m2.lt (fun e=> ?_)),m3.move ht (fun b hb=> .inl (hU b hb)) hV⟩,Ah h.dr.ord (fun g hg=>ht.block g (Ac h.dr.ord hg).2 (fun e=> ?_)),Ah h.dr.pin (fun g hg=>ht.block g (Ac h.dr.pin hg).2 (fun e=> ?_)),hl,h.dr.bd,h.dr.bm,UA h.dr.ap h.dr.lts hb⟩⟩
 ·rcases List.mem_cons.1 e with e|e
  ·exact a1 e.symm
  ·exact(a4 m (by simpa using e)).2 rfl
 ·rcases List.mem_cons.1 e with e|e
  ·exact(a2 g hg).1 e
  ·exact(a2 g hg).2.2.2 (by simpa using e)
 ·rcases List.mem_cons.1 e with e|e
  ·exact(a3 g hg).1 e
  ·exact(a3 g hg).2.2 (by simpa using e)
theorem DU.newP (h:DU w base d m O P L wd now given births ks ps ls) (ht:Tn (d::P.ownBlock.toList) w w') {P':Value} {zC:List Pd} (zA:Aa w' d [XJ wd,.map (some m),XJ now,XJ given,XJ births,O,P',L]) (hl:w'.ownsRow base 134 2 P' zC.length (Ab pC zC)) (hb:P'.ownBlock=P.ownBlock∨∃g,P'.ownBlock=some g/\w.heap.size<=g):DU w' base d m O P' L wd now given births ks zC ls:=by
 obtain⟨a1,a2,a3,a4⟩:=CR h.dr.ap;obtain⟨n,f,m1,m2,m3⟩:=h.dr.map;have hU:∀b∈d::P.ownBlock.toList,b∈vB d m O P L:=by
  intro b hb;unfold vB;rcases List.mem_cons.1 hb with rfl|hb
  ·simp
  ·simp only[List.mem_cons,List.mem_append]
   exact .inr (.inr (.inr (.inl hb)))
 have hV:∀b∈vB d m O P' L,b∈vB d m O P L∨w.heap.size<=b:=by
  intro b zB;unfold vB at zB ⊢;simp only[List.mem_cons,List.mem_append] at zB ⊢;rcases zB with e|e|e|e|e
  ·exact .inl (.inl e)
  ·exact .inl (.inr (.inl e))
  ·exact .inl (.inr (.inr (.inl e)))
  ·rcases hb with hb|⟨g,hg,zE⟩
   ·rw[hb] at e
    exact .inl (.inr (.inr (.inr (.inl e))))
   ·rw[hg] at e
    simp at e;exact .inr (by omega)
  ·exact .inl (.inr (.inr (.inr (.inr e))))
 refine⟨⟨zA,⟨n,f,m1,Bb.same m2 (ht.block m m2.lt (fun e=> ?_)),m3.move ht (fun b hb=> .inl (hU b hb)) hV⟩,Ah h.dr.ord (fun g hg=>ht.block g (Ac h.dr.ord hg).2 (fun e=> ?_)),hl,Ah h.dr.lea (fun g hg=>ht.block g (Ac h.dr.lea hg).2 (fun e=> ?_)),h.dr.bd,h.dr.bm,UB h.dr.ap h.dr.lts hb⟩⟩
 ·rcases List.mem_cons.1 e with e|e
  ·exact a1 e.symm
  ·exact(a3 m (by simpa using e)).2.1 rfl
 ·rcases List.mem_cons.1 e with e|e
  ·exact(a2 g hg).1 e
  ·exact(a2 g hg).2.2.1 (by simpa using e)
 ·rcases List.mem_cons.1 e with e|e
  ·exact(a4 g hg).1 e
  ·exact(a3 g (by simpa using e)).2.2 hg
theorem GK {A:Type} (c:A->List Value) (xs ys:List A):Ab c (xs++ys)=Ab c xs++Ab c ys:=by
 unfold Ab;simp
theorem Gh {a b:Int} (ha:0<=a) (zA:a<=1000000000) (hb:0<=b) (zB:b<=1000000000):IntKind.i64.wrap (a+b)=a+b:=by
 simp[IntKind.wrap,IntKind.bits,IntKind.signed];omega
theorem Mg (w:World) (base:Nat) (v:Value) (ls:List Ld) (ho:w.ownsRow base 137 3 v ls.length (Ab lC ls)) (x:Ld) (hn:ls.length<=1000000) (zA:base<=w.heap.size) (ty:TypeId):
 ∃g cap w',(Builtin.append_ #[26,26] ty #[v,.slice (some ⟨w.heap.size,0,none⟩) 1 1]).run prog (w.alloc (.cells #[XJ x.num,.string x.sum,XJ x.til] 137))=.ok (.slice (some ⟨g,0,none⟩) (ls.length+1) cap) w'/\w'.ownsRow base 137 3 (.slice (some ⟨g,0,none⟩) (ls.length+1) cap) (ls++[x]).length (Ab lC (ls++[x]))/\w.grownBy w' v.ownBlock/\(v.ownBlock=some g∨g=w.heap.size+1):=by
 obtain⟨i0,hi,zC,zB,zE⟩:=info_parts FB;have zF:=Ad ho ((Below.refl _ _).alloc (XB) (.cells #[XJ x.num,.string x.sum,XJ x.til] 137));have hc:∀j u,(Ab lC [x])[j]?=some u->(w.alloc (.cells #[XJ x.num,.string x.sum,XJ x.til] 137)).cell? ((⟨w.heap.size,0,none⟩:Addr).add j)=some u:=by
  intro j u hu;rw[Go.WideShapes.add_plain,Nat.zero_add];exact(Aa.new w [XJ x.num,.string x.sum,XJ x.til] 137 j u (by simpa [Ab,lC] using hu)).1
 obtain⟨v',w',hr,h2,h3,_,h5⟩:=run_append_own_at (P:=prog) (w.alloc (.cells #[XJ x.num,.string x.sum,XJ x.til] 137)) base 26 ty 137 i0 _ 3 32 underlying26 hi zC zB zE rfl (by decide) v ls.length (Ab lC ls) zF ⟨w.heap.size,0,none⟩ 1 1 (Ab lC [x]) (by simp[Ab,lC]) hc (by intro u hu;simp[Ab,lC] at hu;rcases hu with rfl|rfl|rfl<;>rfl) (by unfold maxLen;omega) (by omega) (by simp;omega)
 obtain⟨g,cap,rfl,_,_⟩:=BR h2 (fun e=>by subst e;rcases h2.2 with⟨_,hn⟩|⟨_,_,_,e,_⟩<;>first|omega|cases e);refine⟨g,cap,w',hr,?_,(World.grownBy_alloc w _ _).trans h3,?_⟩
 ·rw[GK,List.length_append]
  exact h2
 ·rcases h5 with h5|h5
  ·exact .inl h5.symm
  ·right
   simpa [Value.ownBlock] using h5
theorem MF (base d m:Nat) (O P L:Value) (wd now given births:Int) (ks:List Kd) (ps:List Pd) (ls:List Ld) (s:ByteArray) (zA:Int) (w:World) (h:DU w base d m O P L wd now given births ks ps ls) (zS:∀k∈ks,(k.sum.size:Int)=wd) (zV:Au ks s) (hl:ls.length<200) (yM:0<=given) (yJ:given<1000000000) (yF:0<=now) (yH:now<=1000000000) (zZ:0<=zA) (yD:zA<=1000000000):
 Calls prog 169 #[.pointer (some ⟨d,0,none⟩),.string s,XJ zA] w fun e w'=>e=.returned (XJ (given+1))/\∃L',DU w' base d m O P L' wd now (given+1) births ks ps (ls++[⟨given+1,s,now+zA⟩])/\Tn (d::L.ownBlock.toList) w w':=by
 have HN:Hid _:=DQ base d m O P L wd now given births ks ps ls s w h.dr zS zV;have HD:Hid (DU w base d m O P L wd now given births ks ps ls):=h;have yN:((ls.length:Int)==200)=false:=by simp;omega
 have yL:(given==1000000000)=false:=by simp;omega
 clear h zS zV;go_enter func169,ntmps169;go_wp2_with fail;refine Calls.mono HN.o ?_;rintro e w1 ⟨rfl,zJ⟩;have zE:=HD.o.below zJ;obtain⟨la,zC,yC⟩:=Ay zE.dr.lea;subst yC;obtain⟨c2,_⟩:=zE.dr.box 2 _ rfl;obtain⟨c3,f3⟩:=zE.dr.box 3 _ rfl;obtain⟨c7,_⟩:=zE.dr.box 7 _ rfl;obtain⟨X,hX⟩:∃X,X=w1.setCell (XL d 3) (XJ (given+1)):=⟨_,rfl⟩;have zH:Tn [d] w1 X:=by rw[hX];exact DR _ _ _ _
 have zG:Aa X d [XJ wd,.map (some m),XJ now,XJ (given+1),XJ births,O,P,.slice la ls.length zC]:=by rw[hX];exact zE.dr.box.set 3 _
 have zI:∀g,(Value.slice la ls.length zC).ownBlock=some g->g≠d:=fun g hg=>((CR zE.dr.ap).2.2.2 g hg).1;have zR:X.ownsRow base 137 3 (.slice la ls.length zC) ls.length (Ab lC ls):=Ah zE.dr.lea (fun g hg=>zH.block g (Ac zE.dr.lea hg).2 (by simp;exact zI g hg));have zW:d<X.heap.size:=zG.lt;have zM:base<=X.heap.size:=XI zE.lo zH.size
 obtain⟨g8,zB,w8,zF,zT,zK,zU⟩:=Mg X.drew base _ ls (Ad zR ((Below.refl _ _).drew)) ⟨given+1,s,now+zA⟩ (by omega) zM 26;dsimp only at zF;replace zF:(Builtin.append_ #[26,26] 26 #[.slice la ls.length zC,.slice (some ⟨X.heap.size,0,none⟩) 1 1]).run prog (X.alloc (.cells #[XJ (given+1),.string s,XJ (now+zA)] 137)).drew=.ok (.slice (some ⟨g8,0,none⟩) (ls.length+1) zB) w8:=zF
 have yK:IntKind.i64.wrap (now+zA)=now+zA:=Gh yF yH zZ yD;have zO:Below X.heap.size X (X.drew.alloc (.cells #[XJ (given+1),.string s,XJ (now+zA)] 137)):=(Below.refl _ _).drew.alloc (XB) _;have zP:=zG.below zO;have HX:Hid _:=hX;have H1:Hid (DU w1 base d m O P (.slice la ls.length zC) wd now given births ks ps ls):=zE;have zY:Hid (Xz w w1):=zJ
 have zN:Aa w8 d [XJ wd,.map (some m),XJ now,XJ (given+1),XJ births,O,P,.slice la ls.length zC]:=Aa.same zG (zK.block d (by simpa using zW) (fun e=>zI d e.symm rfl))
 have H8:Hid (w8.ownsRow base 137 3 (.slice (some ⟨g8,0,none⟩) (ls.length+1) zB) (ls++[(⟨given+1,s,now+zA⟩:Ld)]).length (Ab lC (ls++[(⟨given+1,s,now+zA⟩:Ld)]))/\X.drew.grownBy w8 (Value.slice la ls.length zC).ownBlock/\((Value.slice la ls.length zC).ownBlock=some g8∨g8=X.drew.heap.size+1)):=⟨zT,zK,zU⟩
 have yI:Hid (Aa w8 d [XJ wd,.map (some m),XJ now,XJ (given+1),XJ births,O,P,.slice la ls.length zC]):=zN;have zX:Hid (Tn [d] w1 X):=zH;have yE:Hid (d<X.heap.size):=zW;clear hX zE zJ HN HD zH zR zT zK zU;go_upto_region 5 with fail;rw[←HX.o];clear HX c2 c3 c7 f3;obtain⟨c2,c3,c7⟩:=Aa.c3 zG 2 3 7;obtain⟨a2,a3,a7⟩:=Aa.c3 zP 2 3 7;obtain⟨e7,f7⟩:=zN 7 _ rfl;clear zG zP zN zO
 go_region_law (first
  |(refine BU (by rfl) (.tmp 36) (.tmp 49) 26 26 (by rfl) (by rfl) (by rfl) zF ?_))
 all_goals
  clear zF c2 c3 c7 a2 a3 a7;have z8:=yI.o.set 7 (.slice (some ⟨g8,0,none⟩) (ls.length+1) zB);have z3:=(z8 3 _ rfl).1;have z7:X.heap.size<=w8.heap.size:=by have:=H8.o.2.1.size;simpa using this
  have yA:Hid (Aa (w8.setCell (XL d 7) (.slice (some ⟨g8,0,none⟩) (ls.length+1) zB)) d [XJ wd,.map (some m),XJ now,XJ (given+1),XJ births,O,P,.slice (some ⟨g8,0,none⟩) (ls.length+1) zB]):=z8;clear z8
  have hk:∃L',DU (w8.setCell (XL d 7) (.slice (some ⟨g8,0,none⟩) (ls.length+1) zB)) base d m O P L' wd now (given+1) births ks ps (ls++[(⟨given+1,s,now+zA⟩:Ld)])/\Tn (d::(Value.slice la ls.length zC).ownBlock.toList) w (w8.setCell (XL d 7) (.slice (some ⟨g8,0,none⟩) (ls.length+1) zB)):=by
   have t1:Tn (d::(Value.slice la ls.length zC).ownBlock.toList) w1 (w8.setCell (XL d 7) (.slice (some ⟨g8,0,none⟩) (ls.length+1) zB)):=
    ((zX.o.mono (by simp)).trans ((Tn.of ((Below.refl _ _).drew)).trans ((Cn H8.o.2.1).mono (fun b hb=>List.mem_cons_of_mem _ hb)))).trans ((DR w8 d 7 _).mono (by simp))
   have yB:∀g,(Value.slice (some ⟨g8,0,none⟩) (ls.length+1) zB).ownBlock=some g->g≠d:=fun g hg=>by
    obtain rfl:g8=g:=by simpa [Value.ownBlock] using hg
    rcases H8.o.2.2 with e|e
    ·exact zI g8 e
    ·have h1:g8=X.heap.size+1:=e
     have h2:=yE.o;omega
   have yG:(Value.slice (some ⟨g8,0,none⟩) (ls.length+1) zB).ownBlock=(Value.slice la ls.length zC).ownBlock∨∃g,(Value.slice (some ⟨g8,0,none⟩) (ls.length+1) zB).ownBlock=some g/\w1.heap.size<=g:=by
    rcases H8.o.2.2 with e|e
    ·exact .inl e.symm
    ·exact .inr ⟨g8,rfl,by have h1:g8=X.heap.size+1:=e;have:=zX.o.size;omega⟩
   exact⟨_,H1.o.newL t1 yA.o (Bh H8.o.1 yB 7 _) yG,(Tn.of zY.o).trans t1⟩
  have HK:Hid _:=hk;clear hk;go_wp2;go_ret;exact⟨rfl,HK.o⟩
end
theorem Jl {A:Type} {c:A->List Value} {n:Nat} {e:TypeId} (hn:∀x,(c x).length=n) {w:World} {base g cap:Nat} {ss:List A} (h:w.ownsRow base e n (.slice (some ⟨g,0,none⟩) ss.length cap) ss.length (Ab c ss)) (i:Nat) (hi:i<=ss.length):w.ownsRow base e n (.slice (some ⟨g,0,none⟩) i cap) i (Ab c (ss.take i)):=by
 refine⟨by rw[Bo hn,List.length_take];congr 1;omega,?_⟩;rcases h.2 with⟨e,_⟩|⟨g',zA,zB,e,hb,hg,h1,h2,h3,h4⟩
 ·cases e
 ·cases e
  refine .inr ⟨g,cap,zB,rfl,hb,hg,by omega,h2,h3,?_⟩;rw[←EZ hn ss i hi,←h4,List.take_take];congr 1;exact(Nat.min_eq_left (Nat.mul_le_mul_right n hi)).symm
theorem UC (w:World):(zeroValue 134).run prog w=.ok (.agg #[XM,XM]) w:=by kernel_rfl
theorem LG (w:World) (ty:TypeId) (b o c:Nat) (hc:∀j,j<2->(w.cell? (XL b (o+j))).isSome=true) (hf:∀j,j<2->w.frozen? ⟨b,o+j,none⟩=false):
 (Builtin.clear_ #[25] ty #[.slice (some ⟨b,o,none⟩) 1 c]).run prog w=.ok (.tuple #[]) (w.setCells b o [XM,XM]):=by
 have zE:(Builtin.zeroCells (Value.agg #[XM,XM]).cells 1).toList=[XM,XM]:=by kernel_rfl
 have zA:=run_storeCells_cells (P:=prog) b o [XM,XM] 0 w (by simpa using hc) (by simpa using hf) (by intro v zB;simp at zB;rcases zB with rfl|rfl<;>rfl);simp only[Nat.add_zero] at zA;have zC:=UC;simp[Builtin.clear_,run_underlying underlying25,zC,zE,zA]
theorem LH (g cap i:Nat) (ss:List Pd) (w:World) (base:Nat) (ho:w.ownsRow base 134 2 (.slice (some ⟨g,0,none⟩) ss.length cap) ss.length (Ab pC ss)) (hl:ss.length<=600) (hi:i<ss.length):
 Calls prog 203 #[.slice (some ⟨g,0,none⟩) ss.length cap,XJ i,XJ ((i:Int)+1)] w fun e w'=>e=.returned (.slice (some ⟨g,0,none⟩) (ss.length -1) cap)/\w'.ownsRow base 134 2 (.slice (some ⟨g,0,none⟩) (ss.length -1) cap) (ss.length -1) (Ab pC (ss.eraseIdx i))/\w.grownBy w' (some g):=by
 obtain⟨i0,zG,zU,zJ,zX⟩:=info_parts FW;have zF:ss.length<=cap/\cap<=maxLen:=by
  rcases ho.2 with⟨e,_⟩|⟨g',zE,zM,e,hb,hg,h1,h2,h3,h4⟩
  ·cases e
  ·cases e;exact⟨h1,h2⟩
 obtain⟨zW,zK⟩:=zF;unfold maxLen at zK;have hcut:=Jl BB ho i (by omega);obtain⟨A,hA,zB⟩:∃A,(if cap=i+1 then some (⟨g,0,none⟩:Addr) else some ⟨g,(i+1) *2,none⟩)=some A/\∀j u,(Ab pC (ss.drop (i+1)))[j]?=some u->w.drew.cell? (A.add j)=some u:=by
  by_cases h:cap=i+1
  ·refine⟨⟨g,0,none⟩,by rw[if_pos h],fun j u hu=> ?_⟩
   rw[List.drop_of_length_le (by omega)] at hu;simp[Ab] at hu
  ·refine⟨⟨g,(i+1) *2,none⟩,by rw[if_neg h],fun j u hu=> ?_⟩
   rw[Go.WideShapes.add_plain];rw[←Ex BB ss (i+1) (by omega),List.getElem?_drop] at hu;have zO:=(XC hu).1;rw[Bo BB] at zO;exact(ho.cellAt _ (by omega)).trans hu
 obtain⟨w1,hr,zA,zC⟩:=run_append_fits (P:=prog) w.drew base 25 25 134 i0 2 underlying25 zG zJ g i cap (Ab pC (ss.take i)) hcut A (ss.length -(i+1)) (cap -(i+1)) (Ab pC (ss.drop (i+1))) (by rw[Bo BB,List.length_drop]) zB (Ih _) (by omega);rw[←Bf,show i+(ss.length -(i+1))=ss.length -1 by omega] at zA;rw[show i+(ss.length -(i+1))=ss.length -1 by omega] at hr
 have zH:=(List.eraseIdx_eq_take_drop_succ ss i).symm;rw[zH] at zA;have HO:Hid _:=And.intro zA zC;clear zB zA hcut zH;go_enter func203,ntmps203;have zS:¬((i:Int)==(i:Int)+1)=true:=by simp;omega
 have zR:i<=cap:=by omega
 have zV:(0:Int)<=(i:Int)+1:=by omega
 have zT:(i:Int)+1<=(ss.length:Int):=by omega
 have zP:((i:Int)+1).toNat=i+1:=by omega
 go_upto_region 5 with fail
 go_region_law (first
  |(refine BU (by rfl) (.tmp 22) (.tmp 25) 25 25 (by rfl) (by rfl) (by simp[Act.eval,Act.put]) hr ?_))
 all_goals
  have zI:∀j,j<2->(w1.cell? (XL g ((ss.length -1) *2+j))).isSome=true/\w1.frozen? ⟨g,(ss.length -1) *2+j,none⟩=false:=fun j hj=>by
   obtain⟨zA,zC⟩:=HO.o;rcases zA.2 with⟨e,_⟩|⟨g',zE,zM,e,hb,hg,h1,h2,h3,h4⟩
   ·cases e
   ·cases e
    constructor
    ·simp only[World.cell?,hg]
     rw[Array.getElem?_eq_getElem (by omega)];rfl
    ·exact zA.frozenAt _
  have zN:=LG w1 0 g ((ss.length -1) *2) (cap -(ss.length -1)) (fun j hj=>(zI j hj).1) (fun j hj=>(zI j hj).2);have e1:ss.length -(ss.length -1)=1:=by omega
  have e2:¬cap=ss.length -1:=by omega
  have e3:ss.length -1<=ss.length:=by omega
  go_wp2;go_ret;obtain⟨zA,zC⟩:=HO.o;exact⟨rfl,Gg _ _ _ zA (XB),Ap (CQ zC) (BM g _ _ _)⟩
theorem Lb (w:World):(zeroValue 137).run prog w=.ok (.agg #[XK,XM,XK]) w:=by kernel_rfl
theorem JM (w:World) (ty:TypeId) (b o c:Nat) (hc:∀j,j<3->(w.cell? (XL b (o+j))).isSome=true) (hf:∀j,j<3->w.frozen? ⟨b,o+j,none⟩=false):
 (Builtin.clear_ #[26] ty #[.slice (some ⟨b,o,none⟩) 1 c]).run prog w=.ok (.tuple #[]) (w.setCells b o [XK,XM,XK]):=by
 have zE:(Builtin.zeroCells (Value.agg #[XK,XM,XK]).cells 1).toList=[XK,XM,XK]:=by kernel_rfl
 have zA:=run_storeCells_cells (P:=prog) b o [XK,XM,XK] 0 w (by simpa using hc) (by simpa using hf) (by intro v zB;simp at zB;rcases zB with rfl|rfl|rfl<;>rfl);simp only[Nat.add_zero] at zA;have zC:=Lb;simp[Builtin.clear_,run_underlying underlying26,zC,zE,zA]
theorem JN (g cap i:Nat) (ss:List Ld) (w:World) (base:Nat) (ho:w.ownsRow base 137 3 (.slice (some ⟨g,0,none⟩) ss.length cap) ss.length (Ab lC ss)) (hl:ss.length<=600) (hi:i<ss.length):
 Calls prog 207 #[.slice (some ⟨g,0,none⟩) ss.length cap,XJ i,XJ ((i:Int)+1)] w fun e w'=>e=.returned (.slice (some ⟨g,0,none⟩) (ss.length -1) cap)/\w'.ownsRow base 137 3 (.slice (some ⟨g,0,none⟩) (ss.length -1) cap) (ss.length -1) (Ab lC (ss.eraseIdx i))/\w.grownBy w' (some g):=by
 obtain⟨i0,zG,zU,zJ,zX⟩:=info_parts FB;have zF:ss.length<=cap/\cap<=maxLen:=by
  rcases ho.2 with⟨e,_⟩|⟨g',zE,zM,e,hb,hg,h1,h2,h3,h4⟩
  ·cases e
  ·cases e;exact⟨h1,h2⟩
 obtain⟨zW,zK⟩:=zF;unfold maxLen at zK;have hcut:=Jl Cf ho i (by omega);obtain⟨A,hA,zB⟩:∃A,(if cap=i+1 then some (⟨g,0,none⟩:Addr) else some ⟨g,(i+1) *3,none⟩)=some A/\∀j u,(Ab lC (ss.drop (i+1)))[j]?=some u->w.drew.cell? (A.add j)=some u:=by
  by_cases h:cap=i+1
  ·refine⟨⟨g,0,none⟩,by rw[if_pos h],fun j u hu=> ?_⟩
   rw[List.drop_of_length_le (by omega)] at hu;simp[Ab] at hu
  ·refine⟨⟨g,(i+1) *3,none⟩,by rw[if_neg h],fun j u hu=> ?_⟩
   rw[Go.WideShapes.add_plain];rw[←Ex Cf ss (i+1) (by omega),List.getElem?_drop] at hu;have zO:=(XC hu).1;rw[Bo Cf] at zO;exact(ho.cellAt _ (by omega)).trans hu
 obtain⟨w1,hr,zA,zC⟩:=run_append_fits (P:=prog) w.drew base 26 26 137 i0 3 underlying26 zG zJ g i cap (Ab lC (ss.take i)) hcut A (ss.length -(i+1)) (cap -(i+1)) (Ab lC (ss.drop (i+1))) (by rw[Bo Cf,List.length_drop]) zB (SF _) (by omega);rw[←Bf,show i+(ss.length -(i+1))=ss.length -1 by omega] at zA;rw[show i+(ss.length -(i+1))=ss.length -1 by omega] at hr
 have zH:=(List.eraseIdx_eq_take_drop_succ ss i).symm;rw[zH] at zA;have HO:Hid _:=And.intro zA zC;clear zB zA hcut zH;go_enter func207,ntmps207;have zS:¬((i:Int)==(i:Int)+1)=true:=by simp;omega
 have zR:i<=cap:=by omega
 have zV:(0:Int)<=(i:Int)+1:=by omega
 have zT:(i:Int)+1<=(ss.length:Int):=by omega
 have zP:((i:Int)+1).toNat=i+1:=by omega
 go_upto_region 5 with fail
 go_region_law (first
  |(refine BU (by rfl) (.tmp 22) (.tmp 25) 26 26 (by rfl) (by rfl) (by simp[Act.eval,Act.put]) hr ?_))
 all_goals
  have zI:∀j,j<3->(w1.cell? (XL g ((ss.length -1) *3+j))).isSome=true/\w1.frozen? ⟨g,(ss.length -1) *3+j,none⟩=false:=fun j hj=>by
   obtain⟨zA,zC⟩:=HO.o;rcases zA.2 with⟨e,_⟩|⟨g',zE,zM,e,hb,hg,h1,h2,h3,h4⟩
   ·cases e
   ·cases e
    constructor
    ·simp only[World.cell?,hg]
     rw[Array.getElem?_eq_getElem (by omega)];rfl
    ·exact zA.frozenAt _
  have zN:=JM w1 0 g ((ss.length -1) *3) (cap -(ss.length -1)) (fun j hj=>(zI j hj).1) (fun j hj=>(zI j hj).2);have e1:ss.length -(ss.length -1)=1:=by omega
  have e2:¬cap=ss.length -1:=by omega
  have e3:ss.length -1<=ss.length:=by omega
  go_wp2;go_ret;obtain⟨zA,zC⟩:=HO.o;exact⟨rfl,Gg _ _ _ zA (XB),Ap (CQ zC) (BM g _ _ _)⟩
def De (x y:Int):Int:=if x<y then -1 else if y<x then 1 else 0
theorem MG (x y:Int):De x y<0↔x<y:=by unfold De;split<;>(try split)<;>omega
theorem Lc (x y:Int):De x y=0↔x=y:=by unfold De;split<;>(try split)<;>omega
theorem MH (x:Int) (w:World):Calls prog 235 #[XJ x] w fun e w'=>e=.returned (.bool false)/\w'=w:=by
 have hq:(x !=x)=false:=by simp
 go_enter func235,ntmps235;go_wp2;go_ret;exact⟨rfl,rfl⟩
theorem SM (x y:Int) (w:World):Calls prog 206 #[XJ x,XJ y] w fun e w'=>e=.returned (XJ (De x y))/\w'=w:=by
 go_enter func206,ntmps206;go_wp2_with fail;refine(MH x w).mono ?_;rintro e w1 ⟨rfl,rfl⟩;go_wp2_with fail;refine(MH y w1).mono ?_;rintro e w2 ⟨rfl,rfl⟩;by_cases h1:x<y
 ·have hd:decide (x<y)=true:=by simpa using h1
  have hv:De x y= -1:=by unfold De;rw[if_pos h1]
  clear h1;go_wp2;go_ret;exact⟨by rw[hv];rfl,rfl⟩
 ·have hd:decide (x<y)=false:=by simpa using h1
  by_cases h2:y<x
  ·have zA:decide (y<x)=true:=by simpa using h2
   have hv:De x y=1:=by unfold De;rw[if_neg h1,if_pos h2]
   clear h1 h2;go_wp2;go_ret;exact⟨by rw[hv];rfl,rfl⟩
  ·have zA:decide (y<x)=false:=by simpa using h2
   have hv:De x y=0:=by unfold De;rw[if_neg h1,if_neg h2]
   clear h1 h2;go_wp2;go_ret;exact⟨by rw[hv];rfl,rfl⟩
def DH (x y:ByteArray):Int:=if less x y=true then -1 else if x=y then 0 else 1
theorem MI (x y:ByteArray):DH x y<0↔less x y=true:=by
 unfold DH;by_cases h:less x y=true
 ·rw[if_pos h];exact⟨fun _=>h,fun _=>by omega⟩
 ·rw[if_neg h]
  refine⟨fun e=> ?_,fun e=>absurd e h⟩;split at e<;>omega
theorem Im (x y:ByteArray):DH x y=0↔x=y:=by
 unfold DH;by_cases h:less x y=true
 ·rw[if_pos h]
  refine⟨fun e=>by omega,fun e=> ?_⟩;rw[e,BX] at h;cases h
 ·rw[if_neg h]
  split
  ·rename_i h2;exact⟨fun _=>h2,fun _=>rfl⟩
  ·rename_i h2;exact⟨fun e=>by omega,fun e=>absurd e h2⟩
theorem MJ (x:ByteArray) (w:World):Calls prog 246 #[.string x] w fun e w'=>e=.returned (.bool false)/\w'=w:=by
 have hq:(x.toList !=x.toList)=false:=by simp
 go_enter func246,ntmps246;go_wp2;go_ret;exact⟨rfl,rfl⟩
theorem SN (x y:ByteArray) (w:World):Calls prog 232 #[.string x,.string y] w fun e w'=>e=.returned (XJ (DH x y))/\w'=w:=by
 go_enter func232,ntmps232;go_wp2_with fail;refine(MJ x w).mono ?_;rintro e w1 ⟨rfl,rfl⟩;go_wp2_with fail;refine(MJ y w1).mono ?_;rintro e w2 ⟨rfl,rfl⟩;cases h1:Op.bytesLess x.toList y.toList with
 |true=>
  have HV:Hid (DH x y= -1):=by show _=_;unfold DH less;rw[if_pos h1]
  go_wp2;go_ret;exact⟨by rw[HV.o];rfl,rfl⟩
 |false=>
  by_cases h2:x=y
  ·have HV:Hid _:=(Im x y).2 h2
   have hq:(x.toList==y.toList)=true:=by rw[h2];simp
   clear h2;go_wp2;go_ret;exact⟨by rw[HV.o];rfl,rfl⟩
  ·have HV:Hid (DH x y=1):=by show _=_;unfold DH less;rw[if_neg (by rw[h1];simp),if_neg h2]
   have hq:=BJ h2;clear h2;go_wp2;go_ret;exact⟨by rw[HV.o];rfl,rfl⟩
theorem Le (x:Ld) (n:Int) (w:World):Calls prog 205 #[.agg #[XJ x.num,.string x.sum,XJ x.til],XJ n] w fun e w'=>e=.returned (XJ (De x.num n))/\Xz w w':=by
 have hA:∀o,Xz w (w.alloc o):=fun o=>XA;go_enter func205,ntmps205;go_wp2_with fail;refine(SM x.num n _).mono ?_;rintro e w1 ⟨rfl,rfl⟩;go_wp2;go_ret;exact⟨rfl,hA _⟩
theorem JO (x:Pd) (n:ByteArray) (w:World):Calls prog 231 #[.agg #[.string x.name,.string x.sum],.string n] w fun e w'=>e=.returned (XJ (DH x.name n))/\Xz w w':=by
 have hA:∀o,Xz w (w.alloc o):=fun o=>XA;go_enter func231,ntmps231;go_wp2_with fail;refine(SN x.name n _).mono ?_;rintro e w1 ⟨rfl,rfl⟩;go_wp2;go_ret;exact⟨rfl,hA _⟩
structure Io (ls:List Ld) (n:Int) (i:Nat):Prop where
 le:i<=ls.length
 lo:∀j x,j<i->ls[j]?=some x->x.num<n
 hi:∀j x,i<=j->ls[j]?=some x->n<=x.num
theorem Gw (g cap:Nat) (ls:List Ld) (n:Int) (w:World) (base:Nat) (ho:w.ownsRow base 137 3 (.slice (some ⟨g,0,none⟩) ls.length cap) ls.length (Ab lC ls)) (hl:ls.length<=600) (zB:ls.Pairwise (fun a b=>a.num<b.num)):
 Calls prog 204 #[.slice (some ⟨g,0,none⟩) ls.length cap,XJ n,.func (.func 205) #[] #[]] w fun e w'=>∃i:Nat,e=.returned (.tuple #[XJ i,.bool (decide (∃x,ls[i]?=some x/\x.num=n))])/\Io ls n i/\Xz w w':=by
 have zN:=(Ac ho rfl).2;have HO:Hid _:=ho;have HR:Hid (∀(X:World),Xz w X->∀k x,ls[k]?=some x->X.cell? (XL g (k *3))=some (XJ x.num)/\X.cell? (XL g (k *3+1))=some (.string x.sum)/\X.cell? (XL g (k *3+2))=some (XJ x.til)):=fun X hX k x hx=>by
  have h:=Ad ho hX;have hk:=(XC hx).1;have hc:∀j,j<3->X.cell? (XL g (k *3+j))=(lC x)[j]?:=fun j hj=>(h.cellAt (k *3+j) (by omega)).trans (Bl Cf hx hj);exact⟨by simpa [lC] using hc 0 (by decide),by simpa [lC] using hc 1 (by decide),by simpa [lC] using hc 2 (by decide)⟩
 have HS:Hid _:=zB;clear ho zB;go_enter func204,ntmps204;have zK:=enters_of func205 (by kernel_rfl) rfl;go_wp2
 go_loopw [9,10] (fun i j wr=>∃lo hi:Nat,i=XJ lo/\j=XJ hi/\lo<=hi/\hi<=ls.length/\Hid ((∀j x,j<lo->ls[j]?=some x->x.num<n)/\(∀j x,hi<=j->ls[j]?=some x->n<=x.num))/\Xz w wr) (fun i j _=>(intOf j).toNat -(intOf i).toNat)
 case atStart=>exact⟨0,ls.length,rfl,rfl,Nat.zero_le _,XB,⟨fun j x h=>by omega,fun j x h hx=>by have:=(XC hx).1;omega⟩,Below.refl _ _⟩
 case round=>
  obtain⟨lo,hi,rfl,rfl,zM,zG,HI,zA⟩:=hrel;have zH:=zA.size;by_cases hlt:lo<hi
  ·have zE:(lo+hi)/2<ls.length:=by omega
   have HG:Hid _:=XD zE;generalize ls[(lo+hi)/2]=x at *
   obtain⟨r0,r1,r2⟩:=HR.o wr zA _ _ HG.o;go_wp2_with fail;refine(Le x n wr).mono ?_;rintro e w1 ⟨rfl,zF⟩;have zC:=zA.trans (zF.mono zH);clear r0 r1 r2;by_cases hc:x.num<n
   ·have hd:decide (De x.num n<0)=true:=by simpa using (MG _ _).2 hc
    have HC:Hid _:=hc;clear hc;generalize De x.num n=cv at *
    go_wp2;refine⟨⟨(lo+hi)/2+1,hi,by go_num,rfl,by omega,zG,⟨?_,HI.o.2⟩,zC⟩,by simp[intOf];omega⟩;intro j y hj hy;rcases Nat.lt_or_ge j ((lo+hi)/2) with h|h
    ·have:=List.pairwise_iff_getElem.1 HS.o j ((lo+hi)/2) (by omega) zE h
     obtain⟨_,rfl⟩:=XC hy;obtain⟨_,e⟩:=XC HG.o;rw[e] at this;have h3:=HC.o;omega
    ·obtain rfl:j=(lo+hi)/2:=by omega
     rw[HG.o] at hy;cases hy;exact HC.o
   ·have hd:decide (De x.num n<0)=false:=by simpa using fun e=>hc ((MG _ _).1 e)
    have HC:Hid _:=Int.not_lt.1 hc;clear hc;generalize De x.num n=cv at *
    go_wp2;refine⟨⟨lo,(lo+hi)/2,rfl,by go_num,by omega,by omega,⟨HI.o.1,?_⟩,zC⟩,by simp[intOf];omega⟩;intro j y hj hy;rcases Nat.lt_or_ge ((lo+hi)/2) j with h|h
    ·have zJ:=(XC hy).1
     have:=List.pairwise_iff_getElem.1 HS.o ((lo+hi)/2) j zE zJ h;obtain⟨_,rfl⟩:=XC hy;obtain⟨_,e⟩:=XC HG.o;rw[e] at this;have h3:=HC.o;omega
    ·obtain rfl:j=(lo+hi)/2:=by omega
     rw[HG.o] at hy;cases hy;exact HC.o
  ·obtain rfl:lo=hi:=by omega
   have HP:Hid (Io ls n lo):=⟨zG,HI.o.1,HI.o.2⟩;by_cases hn:lo<ls.length
   ·have HG:Hid _:=XD hn
    generalize ls[lo]=x at *
    obtain⟨r0,r1,r2⟩:=HR.o wr zA _ _ HG.o;have zI:(lo:Int)<ls.length:=by omega
    go_wp2_with fail;refine(Le x n wr).mono ?_;rintro e w1 ⟨rfl,zF⟩;have zC:=zA.trans (zF.mono zH);clear r0 r1 r2;have HD:Hid (decide (∃y,ls[lo]?=some y/\y.num=n)=(De x.num n==0)):=by
     show _=_;rw[HG.o];by_cases h:x.num=n
     ·rw[(Lc x.num n).2 h]
      simp[h]
     ·have h0:¬De x.num n=0:=fun e=>h ((Lc x.num n).1 e)
      rw[show(De x.num n==0)=false by simpa using h0];simp[h]
    generalize De x.num n=cv at *
    go_wp2
    go_ret2
    exact⟨lo,by rw[HD.o];first|rfl|simp[Act.put],HP.o,zC⟩
   ·have HD:Hid (decide (∃y,ls[lo]?=some y/\y.num=n)=false):=by
     show _=_;rw[List.getElem?_eq_none (by omega)];simp
    have zI:¬((lo:Int)<ls.length):=by omega
    go_wp2
    go_ret2
    exact⟨lo,by rw[HD.o];first|rfl|simp[Act.put],HP.o,zA⟩
structure Df (ls:List Pd) (n:ByteArray) (i:Nat):Prop where
 le:i<=ls.length
 lo:∀j x,j<i->ls[j]?=some x->less x.name n=true
 hi:∀j x,i<=j->ls[j]?=some x->less x.name n=false
theorem Hz (g cap:Nat) (ls:List Pd) (n:ByteArray) (w:World) (base:Nat) (ho:w.ownsRow base 134 2 (.slice (some ⟨g,0,none⟩) ls.length cap) ls.length (Ab pC ls)) (hl:ls.length<=600) (zB:ls.Pairwise (fun a b=>less a.name b.name=true)):
 Calls prog 230 #[.slice (some ⟨g,0,none⟩) ls.length cap,.string n,.func (.func 231) #[] #[]] w fun e w'=>∃i:Nat,e=.returned (.tuple #[XJ i,.bool (decide (∃x,ls[i]?=some x/\x.name=n))])/\Df ls n i/\Xz w w':=by
 have zN:=(Ac ho rfl).2;have HO:Hid _:=ho;have HR:Hid (∀(X:World),Xz w X->∀k x,ls[k]?=some x->X.cell? (XL g (k *2))=some (.string x.name)/\X.cell? (XL g (k *2+1))=some (.string x.sum)):=fun X hX k x hx=>by
  have h:=Ad ho hX;have hk:=(XC hx).1;have hc:∀j,j<2->X.cell? (XL g (k *2+j))=(pC x)[j]?:=fun j hj=>(h.cellAt (k *2+j) (by omega)).trans (Bl BB hx hj);exact⟨by simpa [pC] using hc 0 (by decide),by simpa [pC] using hc 1 (by decide)⟩
 have HS:Hid _:=zB;clear ho zB;go_enter func230,ntmps230;have zK:=enters_of func231 (by kernel_rfl) rfl;go_wp2
 go_loopw [9,10] (fun i j wr=>∃lo hi:Nat,i=XJ lo/\j=XJ hi/\lo<=hi/\hi<=ls.length/\Hid ((∀j x,j<lo->ls[j]?=some x->less x.name n=true)/\(∀j x,hi<=j->ls[j]?=some x->less x.name n=false))/\Xz w wr) (fun i j _=>(intOf j).toNat -(intOf i).toNat)
 case atStart=>exact⟨0,ls.length,rfl,rfl,Nat.zero_le _,XB,⟨fun j x h=>by omega,fun j x h hx=>by have:=(XC hx).1;omega⟩,Below.refl _ _⟩
 case round=>
  obtain⟨lo,hi,rfl,rfl,zM,zG,HI,zA⟩:=hrel;have zH:=zA.size;by_cases hlt:lo<hi
  ·have zE:(lo+hi)/2<ls.length:=by omega
   have HG:Hid _:=XD zE;generalize ls[(lo+hi)/2]=x at *
   obtain⟨r0,r1⟩:=HR.o wr zA _ _ HG.o;go_wp2_with fail;refine(JO x n wr).mono ?_;rintro e w1 ⟨rfl,zF⟩;have zC:=zA.trans (zF.mono zH);clear r0 r1;by_cases hc:less x.name n=true
   ·have hd:decide (DH x.name n<0)=true:=by simpa using (MI _ _).2 hc
    have HC:Hid _:=hc;clear hc;generalize DH x.name n=cv at *
    go_wp2;refine⟨⟨(lo+hi)/2+1,hi,by go_num,rfl,by omega,zG,⟨?_,HI.o.2⟩,zC⟩,by simp[intOf];omega⟩;intro j y hj hy;rcases Nat.lt_or_ge j ((lo+hi)/2) with h|h
    ·have:=List.pairwise_iff_getElem.1 HS.o j ((lo+hi)/2) (by omega) zE h
     obtain⟨_,rfl⟩:=XC hy;obtain⟨_,e⟩:=XC HG.o;rw[e] at this;exact Cl this HC.o
    ·obtain rfl:j=(lo+hi)/2:=by omega
     rw[HG.o] at hy;cases hy;exact HC.o
   ·have hd:decide (DH x.name n<0)=false:=by simpa using fun e=>hc ((MI _ _).1 e)
    have HC:Hid (less x.name n=false):=by show _=_;simpa using hc
    clear hc;generalize DH x.name n=cv at *
    go_wp2;refine⟨⟨lo,(lo+hi)/2,rfl,by go_num,by omega,by omega,⟨HI.o.1,?_⟩,zC⟩,by simp[intOf];omega⟩;intro j y hj hy;rcases Nat.lt_or_ge ((lo+hi)/2) j with h|h
    ·have zJ:=(XC hy).1
     have:=List.pairwise_iff_getElem.1 HS.o ((lo+hi)/2) j zE zJ h;obtain⟨_,rfl⟩:=XC hy;obtain⟨_,e⟩:=XC HG.o;rw[e] at this;have h3:=HC.o;cases h':less ls[j].name n with
     |false=>rfl
     |true=>rw[Cl this h'] at h3;cases h3
    ·obtain rfl:j=(lo+hi)/2:=by omega
     rw[HG.o] at hy;cases hy;exact HC.o
  ·obtain rfl:lo=hi:=by omega
   have HP:Hid (Df ls n lo):=⟨zG,HI.o.1,HI.o.2⟩;by_cases hn:lo<ls.length
   ·have HG:Hid _:=XD hn
    generalize ls[lo]=x at *
    obtain⟨r0,r1⟩:=HR.o wr zA _ _ HG.o;have zI:(lo:Int)<ls.length:=by omega
    go_wp2_with fail;refine(JO x n wr).mono ?_;rintro e w1 ⟨rfl,zF⟩;have zC:=zA.trans (zF.mono zH);clear r0 r1;have HD:Hid (decide (∃y,ls[lo]?=some y/\y.name=n)=(DH x.name n==0)):=by
     show _=_;rw[HG.o];by_cases h:x.name=n
     ·rw[(Im x.name n).2 h]
      simp[h]
     ·have h0:¬DH x.name n=0:=fun e=>h ((Im x.name n).1 e)
      rw[show(DH x.name n==0)=false by simpa using h0];simp[h]
    generalize DH x.name n=cv at *
    go_wp2
    go_ret2
    exact⟨lo,by rw[HD.o];first|rfl|simp[Act.put],HP.o,zC⟩
   ·have HD:Hid (decide (∃y,ls[lo]?=some y/\y.name=n)=false):=by
     show _=_;rw[List.getElem?_eq_none (by omega)];simp
    have zI:¬((lo:Int)<ls.length):=by omega
    go_wp2
    go_ret2
    exact⟨lo,by rw[HD.o];first|rfl|simp[Act.put],HP.o,zA⟩
theorem Ip {w:World} {base:Nat} {e:TypeId} {size:Nat} {v:Value} {n:Nat} {xs:List Value} (h:w.ownsRow base e size v n xs) (hn:0<n):∃g cap,v=.slice (some ⟨g,0,none⟩) n cap:=by
 rcases h.2 with⟨_,hz⟩|⟨g,cap,zA,rfl,_⟩
 ·omega
 ·exact⟨g,cap,rfl⟩
theorem Io.at {ls:List Ld} {n:Int} {i:Nat} (h:Io ls n i) (zC:∃x∈ls,x.num=n) (zA:ls.Pairwise (fun a b=>a.num<b.num)):∃x,ls[i]?=some x/\x.num=n:=by
 obtain⟨x,hx,hn⟩:=zC;obtain⟨j,hj⟩:=List.getElem?_of_mem hx;have zB:=(XC hj).1;have zE:i=j:=by
  rcases Nat.lt_trichotomy i j with h'|h'|h'
  ·have h1:=h.hi i ls[i] (XB) (XD (by omega))
   have h2:=List.pairwise_iff_getElem.1 zA i j (by omega) zB h';obtain⟨_,e⟩:=XC hj;rw[e] at h2;omega
  ·exact h'
  ·have:=h.lo j x h' hj
   omega
 exact⟨x,zE▸hj,hn⟩
theorem Df.at {ls:List Pd} {n:ByteArray} {i:Nat} (h:Df ls n i) (zC:∃x∈ls,x.name=n) (zA:ls.Pairwise (fun a b=>less a.name b.name=true)):∃x,ls[i]?=some x/\x.name=n:=by
 obtain⟨x,hx,hn⟩:=zC;obtain⟨j,hj⟩:=List.getElem?_of_mem hx;have zB:=(XC hj).1;have zE:i=j:=by
  rcases Nat.lt_trichotomy i j with h'|h'|h'
  ·have h1:=h.hi i ls[i] (XB) (XD (by omega))
   have h2:=List.pairwise_iff_getElem.1 zA i j (by omega) zB h';obtain⟨_,e⟩:=XC hj;rw[e,hn] at h2;rw[h2] at h1;cases h1
  ·exact h'
  ·have:=h.lo j x h' hj
   rw[hn,BX] at this;cases this
 exact⟨x,zE▸hj,hn⟩
def Bk (ls:List Ld) (n:Int):List Ld:=ls.filter (fun x=> !decide (x.num=n))
def AV (ps:List Pd) (n:ByteArray):List Pd:=ps.filter (fun x=> !decide (x.name=n))
theorem Gi {A:Type} {q:A->Bool}:∀{xs:List A} {i:Nat} {x:A},xs[i]?=some x->q x=false->(∀j y,xs[j]?=some y->j≠i->q y=true)->xs.filter q=xs.eraseIdx i
 |[],i,x,hx,_,_=>by simp at hx
 |y::ys,0,x,hx,hq,ho=>by
  simp only[List.getElem?_cons_zero,Option.some.injEq] at hx;subst hx;rw[List.filter_cons,hq,List.eraseIdx_cons_zero];simp only[Bool.false_eq_true,if_false];exact List.filter_eq_self.2 (fun z hz=>by
   obtain⟨j,hj⟩:=List.getElem?_of_mem hz;exact ho (j+1) z (by simpa using hj) (by omega))
 |y::ys,i+1,x,hx,hq,ho=>by
  have hy:=ho 0 y (by simp) (by omega);rw[List.filter_cons,hy,List.eraseIdx_cons_succ];simp only[if_true];rw[Gi (i:=i) (x:=x) (by simpa using hx) hq (fun j z hj hne=>ho (j+1) z (by simpa using hj) (by omega))]
theorem NF {ls:List Ld} {n:Int} {i:Nat} {x:Ld} (hx:ls[i]?=some x) (hn:x.num=n) (zA:ls.Pairwise (fun a b=>a.num<b.num)):Bk ls n=ls.eraseIdx i:=by
 refine Gi hx (by simp[hn]) (fun j y hj hne=> ?_);have zC:=(XC hx).1;have zB:=(XC hj).1;obtain⟨_,e1⟩:=XC hx;obtain⟨_,e2⟩:=XC hj;rcases Nat.lt_or_gt_of_ne hne with h|h
 ·have:=List.pairwise_iff_getElem.1 zA j i zB zC h
  rw[e1,e2] at this;simp;omega
 ·have:=List.pairwise_iff_getElem.1 zA i j zC zB h
  rw[e1,e2] at this;simp;omega
theorem ML {ls:List Pd} {n:ByteArray} {i:Nat} {x:Pd} (hx:ls[i]?=some x) (hn:x.name=n) (zA:ls.Pairwise (fun a b=>less a.name b.name=true)):AV ls n=ls.eraseIdx i:=by
 refine Gi hx (by simp[hn]) (fun j y hj hne=> ?_);have zE:=(XC hx).1;have zC:=(XC hj).1;obtain⟨_,e1⟩:=XC hx;obtain⟨_,e2⟩:=XC hj;have zB:y.name≠n:=fun e=>by
  rcases Nat.lt_or_gt_of_ne hne with h|h
  ·have:=List.pairwise_iff_getElem.1 zA j i zC zE h
   rw[e1,e2,e,hn,BX] at this;cases this
  ·have:=List.pairwise_iff_getElem.1 zA i j zE zC h
   rw[e1,e2,e,hn,BX] at this;cases this
 simpa using zB
theorem SO (base d m:Nat) (O P L:Value) (wd now given births:Int) (ks:List Kd) (ps:List Pd) (ls:List Ld) (n:Int) (w:World) (h:DU w base d m O P L wd now given births ks ps ls) (hl:ls.length<=200) (zA:ls.Pairwise (fun a b=>a.num<b.num)) (zN:∃x∈ls,x.num=n):
 Calls prog 172 #[.pointer (some ⟨d,0,none⟩),XJ n] w fun e w'=>e=.returned (.tuple #[])/\∃L',DU w' base d m O P L' wd now given births ks ps (Bk ls n)/\Tn (d::L.ownBlock.toList) w w':=by
 have zO:0<ls.length:=by obtain⟨x,hx,_⟩:=zN;exact List.length_pos_of_mem hx
 obtain⟨g,cap,zV⟩:=Ip h.dr.lea zO;subst zV;have HD:Hid _:=h;have zM:Hid _:=zA;have zT:Hid _:=zN;have HS:Hid _:=Gw g cap ls n w base h.dr.lea (by omega) zA;obtain⟨c7,_⟩:=h.dr.box 7 _ rfl;clear h zA zN;go_enter func172,ntmps172;go_wp2_with fail;refine Calls.mono HS.o ?_;rintro e w1 ⟨i,rfl,zR,zK⟩;obtain⟨x,zG,zJ⟩:=zR.at zT.o zM.o
 have zC:decide (∃x,ls[i]?=some x/\x.num=n)=true:=by simpa using ⟨x,zG,zJ⟩
 have zS:=(XC zG).1;have HE:Hid _:=NF zG zJ zM.o;have zE:=HD.o.below zK;have zF:Hid _:=zE;have zW:Hid _:=zK;have zH:Hid _:=JN g cap i ls w1 base zE.dr.lea (by omega) zS;obtain⟨e7,_⟩:=zE.dr.box 7 _ rfl;rw[zC];clear zC zG zJ zR zE zK HD HS zT zM c7;go_wp2_with fail;refine Calls.mono zH.o ?_;rintro e w2 ⟨rfl,zU,zI⟩
 have zP:∀b,(Value.slice (some ⟨g,0,none⟩) (ls.length -1) cap).ownBlock=some b->b≠d:=fun b hb=>((CR zF.o.dr.ap).2.2.2 b hb).1;have zB:=Aa.same zF.o.dr.box (zI.block d zF.o.dr.box.lt (fun e=>zP g rfl (Option.some.inj e).symm));obtain⟨f7,k7⟩:=zB 7 _ rfl
 have hK:∃L',DU (w2.setCell (XL d 7) (.slice (some ⟨g,0,none⟩) (ls.length -1) cap)) base d m O P L' wd now given births ks ps (Bk ls n)/\Tn (d::(Value.slice (some ⟨g,0,none⟩) ls.length cap).ownBlock.toList) w (w2.setCell (XL d 7) (.slice (some ⟨g,0,none⟩) (ls.length -1) cap)):=by
  have t1:Tn (d::(Value.slice (some ⟨g,0,none⟩) ls.length cap).ownBlock.toList) w1 (w2.setCell (XL d 7) (.slice (some ⟨g,0,none⟩) (ls.length -1) cap)):=
   ((Cn zI).mono (by intro b hb;simp[Value.ownBlock] at hb ⊢;exact .inr hb)).trans ((DR w2 d 7 _).mono (by simp))
  refine⟨_,zF.o.newL t1 (zB.set 7 _) ?_ (.inl rfl),(Tn.of zW.o).trans t1⟩;rw[HE.o,List.length_eraseIdx,if_pos zS];exact Bh zU zP 7 _
 have HK:Hid _:=hK;clear hK zU zI zB e7;go_wp2
 go_end0
 exact⟨rfl,HK.o⟩
theorem Iq (base d m:Nat) (O L:Value) (g cap:Nat) (wd now given births:Int) (ks:List Kd) (ps:List Pd) (ls:List Ld) (n:ByteArray) (w:World) (h:DU w base d m O (.slice (some ⟨g,0,none⟩) ps.length cap) L wd now given births ks ps ls) (hl:ps.length<=200) (zA:ps.Pairwise (fun a b=>less a.name b.name=true)):
 Calls prog 201 #[.pointer (some ⟨d,0,none⟩),.string n] w fun e w'=>∃i:Nat,e=.returned (.tuple #[XJ i,.bool (decide (∃x,ps[i]?=some x/\x.name=n))])/\Df ps n i/\Xz w w':=by
 have HS:Hid _:=Hz g cap ps n w base h.dr.pin (by omega) zA;obtain⟨c6,_⟩:=h.dr.box 6 _ rfl;clear h zA;go_enter func201,ntmps201;go_wp2_with fail;refine Calls.mono HS.o ?_;rintro e w1 ⟨i,rfl,zF,zC⟩;obtain⟨bb,zB⟩:∃bb,decide (∃x,ps[i]?=some x/\x.name=n)=bb:=⟨_,rfl⟩;have zE:Hid _:=zB;rw[zB];clear zB;go_wp2
 go_ret2
 exact⟨i,by rw[zE.o];rfl,zF,zC⟩
theorem QR (base d m:Nat) (O P L:Value) (wd now given births:Int) (ks:List Kd) (ps:List Pd) (ls:List Ld) (n:ByteArray) (w:World) (h:DU w base d m O P L wd now given births ks ps ls) (hl:ps.length<=200) (zA:ps.Pairwise (fun a b=>less a.name b.name=true)) (zN:∃x∈ps,x.name=n):
 Calls prog 171 #[.pointer (some ⟨d,0,none⟩),.string n] w fun e w'=>e=.returned (.tuple #[])/\∃P',DU w' base d m O P' L wd now given births ks (AV ps n) ls/\Tn (d::P.ownBlock.toList) w w':=by
 have zO:0<ps.length:=by obtain⟨x,hx,_⟩:=zN;exact List.length_pos_of_mem hx
 obtain⟨g,cap,zV⟩:=Ip h.dr.pin zO;subst zV;have HD:Hid _:=h;have zM:Hid _:=zA;have zT:Hid _:=zN;have HS:Hid _:=Iq base d m O L g cap wd now given births ks ps ls n w h hl zA;clear h zA zN;go_enter func171,ntmps171;go_wp2_with fail;refine Calls.mono HS.o ?_;rintro e w1 ⟨i,rfl,zR,zK⟩;obtain⟨x,zG,zJ⟩:=zR.at zT.o zM.o;have zC:decide (∃x,ps[i]?=some x/\x.name=n)=true:=by simpa using ⟨x,zG,zJ⟩
 have zS:=(XC zG).1;have HE:Hid _:=ML zG zJ zM.o;have zE:=HD.o.below zK;have zF:Hid _:=zE;have zW:Hid _:=zK;have zH:Hid _:=LH g cap i ps w1 base zE.dr.pin (by omega) zS;obtain⟨e6,_⟩:=zE.dr.box 6 _ rfl;rw[zC];clear zC zG zJ zR zE zK HD HS zT zM;go_wp2_with fail;refine Calls.mono zH.o ?_;rintro e w2 ⟨rfl,zU,zI⟩
 have zP:∀b,(Value.slice (some ⟨g,0,none⟩) (ps.length -1) cap).ownBlock=some b->b≠d:=fun b hb=>((CR zF.o.dr.ap).2.2.1 b hb).1;have zB:=Aa.same zF.o.dr.box (zI.block d zF.o.dr.box.lt (fun e=>zP g rfl (Option.some.inj e).symm));obtain⟨f6,k6⟩:=zB 6 _ rfl
 have hK:∃P',DU (w2.setCell (XL d 6) (.slice (some ⟨g,0,none⟩) (ps.length -1) cap)) base d m O P' L wd now given births ks (AV ps n) ls/\Tn (d::(Value.slice (some ⟨g,0,none⟩) ps.length cap).ownBlock.toList) w (w2.setCell (XL d 6) (.slice (some ⟨g,0,none⟩) (ps.length -1) cap)):=by
  have t1:Tn (d::(Value.slice (some ⟨g,0,none⟩) ps.length cap).ownBlock.toList) w1 (w2.setCell (XL d 6) (.slice (some ⟨g,0,none⟩) (ps.length -1) cap)):=
   ((Cn zI).mono (by intro b hb;simp[Value.ownBlock] at hb ⊢;exact .inr hb)).trans ((DR w2 d 6 _).mono (by simp))
  refine⟨_,zF.o.newP t1 (zB.set 6 _) ?_ (.inl rfl),(Tn.of zW.o).trans t1⟩;rw[HE.o,List.length_eraseIdx,if_pos zS];exact Bh zU zP 6 _
 have HK:Hid _:=hK;clear hK zU zI zB e6;go_wp2
 go_end0
 exact⟨rfl,HK.o⟩
end Go.Proofs.YtpekbmegopfhfaaGreatDoor
