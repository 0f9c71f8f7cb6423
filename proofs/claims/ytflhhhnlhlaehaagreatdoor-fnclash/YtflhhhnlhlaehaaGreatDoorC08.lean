import Derived.Test.YtflhhhnlhlaehaaGreatDoorC07
set_option maxRecDepth 100000
set_option maxHeartbeats 16000000
namespace Go.Proofs.YtflhhhnlhlaehaaGreatDoor
open Go.ChangeShapes Go.WideShapes Go.ChangeAt Go.RowKit _root_.Go.Proofs.Tryz
theorem Hg {w:World} {b:Nat} {wd now given births:Int} {T P L:Value} (h:By w b wd now given births T P L):w.cell? ⟨b,0,none⟩=some (.int .i64 wd)/\w.cell? ⟨b,1,none⟩=some (.int .i64 now)/\w.cell? ⟨b,2,none⟩=some (.int .i64 given)/\w.cell? ⟨b,3,none⟩=some (.int .i64 births)/\w.cell? ⟨b,4,none⟩=some T/\w.cell? ⟨b,5,none⟩=some P/\w.cell? ⟨b,6,none⟩=some L:=
 ⟨h.1,h.2.1,h.2.2.1,h.2.2.2.1,h.2.2.2.2.1,h.2.2.2.2.2.1,h.2.2.2.2.2.2.1⟩
def vB (d m:Nat) (O P L:Value):List Nat:=d::m::(O.ownBlock.toList++(P.ownBlock.toList++L.ownBlock.toList))
def Ps (base:Nat) (V:List Nat):Prop:=∃m,V[1]?=some m/\m<base+4
def CA (w:World) (base:Nat) (V:List Nat) (a:Option Addr) (ss:List ByteArray):Prop:=
 ss=[]∨∃b off,a=some ⟨b,off,none⟩/\b<w.heap.size/\b∉V/\((b<base/\Ps base V)∨(base<=b/\∃cur,w.heap[b]?=some (.cells cur 9)))/\∀i s,ss[i]?=some s->w.cell? ⟨b,off+i,none⟩=some (.string s)
theorem CA.row {w:World} {base:Nat} {V:List Nat} {a:Option Addr} {ss:List ByteArray} (h:CA w base V a ss):Ad w w.heap.size a ss:=by
 rcases h with h|⟨b,off,ha,hb,_,_,hc⟩
 ·exact .inl h
 ·exact .inr ⟨b,off,ha,hb,hc⟩
def Bd (w:World) (base:Nat) (V:List Nat) (wd:Int) (ks:List Kd) (f:Lit->Option Value):Prop:=
 ∀s:ByteArray,(s.size:Int)=wd->(f (keyL s)=none/\¬Av ks s)∨∃u ra rc,u∈ks/\u.sum=s/\f (keyL s)=some (Dc u ra rc)/\CA w base V ra u.refs
theorem Bd.of {W w:World} {V:List Nat} {wd:Int} {ks:List Kd} {f:Lit->Option Value} (h:BY W W.heap.size wd ks f) (hb:Uq W w) (hV:∀b∈V,W.heap.size<=b) (hm:Ps W.heap.size V):Bd w W.heap.size V wd ks f:=by
 intro s hs;rcases h s hs with h|⟨u,ra,rc,h1,h2,h3,h4⟩
 ·exact .inl h
 ·refine .inr ⟨u,ra,rc,h1,h2,h3,?_⟩
  rcases h4 with h4|⟨b,off,ha,zA,hc⟩
  ·exact .inl h4
  ·exact .inr ⟨b,off,ha,Uy zA hb.size,fun hv=>by have:=hV b hv;omega,.inl ⟨zA,hm⟩,fun i s hs=>(hb.cell (p:=⟨b,off+i,none⟩) zA).trans (hc i s hs)⟩
structure Dr (w:World) (base d m:Nat) (O P L:Value) (wd now given births:Int) (ks:List Kd) (ps:List Pd) (ls:List Ld):Prop where
 box:Aa w d [.int .i64 wd,.map (some m),.int .i64 now,.int .i64 given,.int .i64 births,O,P,L]
 map:∃n f,n<=1000000+births.toNat/\AM w 113 m n f/\Bd w base (vB d m O P L) wd ks f
 ord:w.ownsRow base 113 8 O ks.length (AA (ks.map (·.sum)))
 pin:w.ownsRow base 108 2 P ps.length (Ab pC ps)
 lea:w.ownsRow base 111 3 L ls.length (Ab lC ls)
 bd:base<=d
 bm:base<=m
 ap:(vB d m O P L).Nodup
theorem Bd.below {w w':World} {base:Nat} {V:List Nat} {wd:Int} {ks:List Kd} {f:Lit->Option Value} (h:Bd w base V wd ks f) (hb:Uq w w'):Bd w' base V wd ks f:=by
 intro s hs;rcases h s hs with h|⟨u,ra,rc,h1,h2,h3,h4⟩
 ·exact .inl h
 ·refine .inr ⟨u,ra,rc,h1,h2,h3,?_⟩
  rcases h4 with h4|⟨b,off,ha,zA,hv,ht,hc⟩
  ·exact .inl h4
  ·exact .inr ⟨b,off,ha,Uy zA hb.size,hv,(by rw[hb.block b zA];exact ht),fun i s hs=>(hb.cell (p:=⟨b,off+i,none⟩) zA).trans (hc i s hs)⟩
theorem Ag {w w':World} {base:Nat} {e:TypeId} {size:Nat} {v:Value} {n:Nat} {xs:List Value} (h:w.ownsRow base e size v n xs) (hb:Uq w w'):w'.ownsRow base e size v n xs:=by
 refine⟨h.1,?_⟩;rcases h.2 with hn|⟨g,cap,zA,hv,zB,hg,rest⟩
 ·exact .inl hn
 ·exact .inr ⟨g,cap,zA,hv,zB,(hb.block g (Array.getElem?_eq_some_iff.1 hg).1).trans hg,rest⟩
theorem Dr.below {w w':World} {base d m:Nat} {O P L:Value} {wd now given births:Int} {ks:List Kd} {ps:List Pd} {ls:List Ld} (h:Dr w base d m O P L wd now given births ks ps ls) (hb:Uq w w'):Dr w' base d m O P L wd now given births ks ps ls:=by
 obtain⟨n,f,h1,h2,h3⟩:=h.map;exact⟨h.box.below hb,⟨n,f,h1,h2.keep hb h2.lt,h3.below hb⟩,Ag h.ord hb,Ag h.pin hb,Ag h.lea hb,h.bd,h.bm,h.ap⟩
theorem Af {w:World} {base:Nat} {e:TypeId} {size:Nat} {v:Value} {n:Nat} {xs:List Value} (h:w.ownsRow base e size v n xs) {g:Nat} (hg:v.ownBlock=some g):base<=g/\g<w.heap.size:=by
 rcases h.2 with⟨rfl,_⟩|⟨g',cap,zB,rfl,hb,zA,_⟩
 ·cases hg
 ·cases hg
  exact⟨hb,(Array.getElem?_eq_some_iff.1 zA).1⟩
theorem Gr {w w':World} {base B:Nat} {e:TypeId} {size:Nat} {v:Value} {n:Nat} {xs:List Value} (h:w.ownsRow base e size v n xs) (hb:Below B w w') (hB:∀g,v.ownBlock=some g->g<B):w'.ownsRow base e size v n xs:=by
 refine⟨h.1,?_⟩;rcases h.2 with hn|⟨g,cap,zA,rfl,zB,hg,rest⟩
 ·exact .inl hn
 ·exact .inr ⟨g,cap,zA,rfl,zB,(hb.block g (hB g rfl)).trans hg,rest⟩
theorem Qq (w:World) (base:Nat) (v:Value) (ss:List ByteArray) (ho:w.ownsRow base 113 8 v ss.length (AA ss)) (s:ByteArray) (hn:ss.length<=1000000) (zA:base<=w.heap.size) (ty:TypeId):
 ∃g cap w',(Builtin.append_ #[103,103] ty #[v,.slice (some ⟨w.heap.size,0,none⟩) 1 1]).run prog (w.alloc (DI s))=.ok (.slice (some ⟨g,0,none⟩) (ss.length+1) cap) w'/\w'.ownsRow base 113 8 (.slice (some ⟨g,0,none⟩) (ss.length+1) cap) (ss++[s]).length (AA (ss++[s]))/\w.grownBy w' v.ownBlock/\(v.ownBlock=some g∨g=w.heap.size+1):=by
 obtain⟨i0,hi,zC,zD,zE⟩:=info_parts Je;have zB:=Ag ho ((Below.refl _ _).alloc (Us) (DI s));have h1:=R8.one w s;have hc:∀j u,(AA [s])[j]?=some u->(w.alloc (DI s)).cell? ((⟨w.heap.size,0,none⟩:Addr).add j)=some u:=by
  rcases h1 with⟨e,_⟩|⟨g,off,cap,e,_,hc⟩
  ·cases e
  ·cases e
   exact R8.cells hc
 obtain⟨v',w',hr,h2,h3,_,h5⟩:=run_append_own_at (P:=prog) (w.alloc (DI s)) base 103 ty 113 i0 _ 8 8 underlying103 hi zC zD zE rfl (by decide) v ss.length (AA ss) zB ⟨w.heap.size,0,none⟩ 1 1 (AA [s]) (DV [s]) hc (CL [s]) (by unfold maxLen;omega) (by omega) (by simp;omega);obtain⟨g,cap,rfl,_,_⟩:=CM h2 (fun e=>by subst e;rcases h2.2 with⟨_,hn⟩|⟨_,_,_,e,_⟩<;>first|omega|cases e)
 refine⟨g,cap,w',hr,?_,(World.grownBy_alloc w (DI s) _).trans h3,?_⟩
 ·rw[FZ,List.length_append]
  exact h2
 ·rcases h5 with h5|h5
  ·exact .inl h5.symm
  ·right
   simpa [Value.ownBlock] using h5
theorem LX (wd now given births:Int) (a p l:Option Addr) (ac pc lc:Nat) (ks:List Kd) (ps:List Pd) (ls:List Ld) (w:World) (zF:BC w w.heap.size a p l ks ps ls) (hk:ks.length<=600) (hp:ps.length<=100) (hl:ls.length<=200) (yV:∀k∈ks,(k.sum.size:Int)=wd) (h8:wd<=8):
 Calls prog 37 #[.agg #[.int .i64 wd,.int .i64 now,.int .i64 given,.int .i64 births,.slice a ks.length ac,.slice p ps.length pc,.slice l ls.length lc]] w fun e w'=>∃d m O P L,e=.returned (.pointer (some ⟨d,0,none⟩))/\Dr w' (w.heap.size+1) d m O P L wd now given births ks ps ls/\Uq w w':=by
 have hx:=By.new w wd now given births (.slice a ks.length ac) (.slice p ps.length pc) (.slice l ls.length lc) 32;obtain⟨W0,zI⟩:∃W,W=w.alloc (.cells #[.int .i64 wd,.int .i64 now,.int .i64 given,.int .i64 births,.slice a ks.length ac,.slice p ps.length pc,.slice l ls.length lc] 32):=⟨_,rfl⟩;have zB:=(AC zI).1;have yW:=(AC zI).2.1;rw[←zI] at hx;have zE:Hid _:=zF;have HX:Hid _:=hx;have zZ:Hid _:=zI
 have S0:=Hg hx
 have yG:W0.drew.cell? ⟨w.heap.size,0,none⟩=some (.int .i64 wd)/\W0.drew.cell? ⟨w.heap.size,1,none⟩=some (.int .i64 now)/\W0.drew.cell? ⟨w.heap.size,2,none⟩=some (.int .i64 given)/\W0.drew.cell? ⟨w.heap.size,3,none⟩=some (.int .i64 births)/\W0.drew.cell? ⟨w.heap.size,4,none⟩=some (.slice a ks.length ac)/\W0.drew.cell? ⟨w.heap.size,5,none⟩=some (.slice p ps.length pc)/\W0.drew.cell? ⟨w.heap.size,6,none⟩=some (.slice l ls.length lc):=S0
 have K0:BP W0.drew W0.drew.heap.size a ks:=BP.mono (BP.below zF.k zB.drew) zB.size;have yR:ks.length<=1048576:=by omega
 have yU:ps.length<=1048576:=by omega
 have yS:ls.length<=1048576:=by omega
 clear zF hx zI;go_enter func37,ntmps37;go_upto_region 1 with fail;rw[←zZ.o];clear zZ
 go_region_held3 (fun w'=>w'.cell? ⟨w.heap.size,0,none⟩=some (.int .i64 wd)/\w'.cell? ⟨w.heap.size,1,none⟩=some (.int .i64 now)/\w'.cell? ⟨w.heap.size,2,none⟩=some (.int .i64 given)/\w'.cell? ⟨w.heap.size,3,none⟩=some (.int .i64 births)/\w'.cell? ⟨w.heap.size,4,none⟩=some (.slice a ks.length ac)/\w'.cell? ⟨w.heap.size,5,none⟩=some (.slice p ps.length pc)/\w'.cell? ⟨w.heap.size,6,none⟩=some (.slice l ls.length lc))
  (first|exact S3|exact S2|exact S1|exact yG|exact Hg (By.below X3.o (Ur)))
  (first
  |(go_at_call 57;refine(Hf wd now given births a ac (.slice p ps.length pc) (.slice l ls.length lc) ks W0.drew K0 yR yV h8).mono ?_;rintro e w1 ⟨m,f,rfl,hm,hM,hH,zS⟩;have B1:Below W0.heap.size W0 w1:=(Below.refl W0.heap.size W0).drew.trans zS;have S1:=Hg (By.below HX.o B1))
  |(go_at_call 43;refine(ET p pc ps w1 (Bo.mono (Bo.below zE.o.p (zB.trans (B1.mono zB.size))) (zB.trans (B1.mono zB.size)).size) yU).mono ?_;rintro e w2 ⟨p2,zD,rfl,zU,zL⟩;have B2:Below W0.heap.size W0 w2:=B1.trans (zL.mono B1.size);have S2:=Hg (By.below HX.o B2))
  |(go_at_call 44;refine(Em l lc ls w2 (Bj.mono (Bj.below zE.o.l (zB.trans (B2.mono zB.size))) (zB.trans (B2.mono zB.size)).size) yS).mono ?_;rintro e w3 ⟨l3,zC,rfl,zV,zG⟩;have B3:Below W0.heap.size W0 w3:=B2.trans (zG.mono B2.size);have X3:Hid _:=By.below HX.o B3;have S3:=Hg X3.o))
 obtain⟨W4,zJ⟩:∃W,W=w3.alloc (.cells #[.int .i64 wd,.map (some m),.int .i64 now,.int .i64 given,.int .i64 births,.slice none 0 0,.slice p2 ps.length zD,.slice l3 ls.length zC] 105):=⟨_,rfl⟩;have xE:=(AC zJ).2.1;have zH:=(AC zJ).1;have Z4:=(AC zJ).2.2;have yX:w.heap.size+1<=w1.heap.size:=by have:=B1.size;omega
 have zW:=zL.size;have yY:=zG.size;have yT:m<w1.heap.size:=hM.lt;have B4:Below w.heap.size w W4:=(zB.trans (B3.mono zB.size)).trans (zH.mono (by omega));have yJ:Hid (Below W0.drew.heap.size W0.drew W4):=((zS.trans (zL.mono (by simp;omega))).trans (zG.mono (by simp;omega))).trans (zH.mono (by simp;omega));have yB:Hid _:=By.below X3.o zH
 have yL:Hid (AM W4 113 m ks.length f):=hM.keep (B:=w1.heap.size) ((zL.trans (zG.mono zW)).trans (zH.mono (by omega))) yT;have yM:Hid (W4.ownsRow w1.heap.size 108 2 (.slice p2 ps.length zD) ps.length (Ab pC ps)):=Ag (Ag zU zG) zH;have yK:Hid (W4.ownsRow w2.heap.size 111 3 (.slice l3 ls.length zC) ls.length (Ab lC ls)):=Ag zV zH
 have zN:Hid (∀g,(Value.slice p2 ps.length zD).ownBlock=some g->w1.heap.size<=g/\g<w2.heap.size):=fun g hg=>Af zU hg;have zM:Hid (∀g,(Value.slice l3 ls.length zC).ownBlock=some g->w2.heap.size<=g/\g<w3.heap.size):=fun g hg=>Af zV hg;have HH:Hid _:=hH;have yC:Hid _:=Z4;have xC:w.heap.size+1<=m/\m<=w.heap.size+3:=by have:=hm;simp at this;omega
 rw[←zJ];clear zJ S0 yG S1 S2 S3 X3 HX B1 B2 B3 zS zL zG hM zU zV hH Z4 K0 hm;obtain⟨x0,x1,x2,x3,x4,x5,x6,x7⟩:=yB.o;go_wp2
 go_loopw [25] (fun i wr=>∃(k:Nat) (O:Value),k<=ks.length/\i=.int .i64 k/\Hid (Aa wr w3.heap.size [.int .i64 wd,.map (some m),.int .i64 now,.int .i64 given,.int .i64 births,O,.slice p2 ps.length zD,.slice l3 ls.length zC])/\Hid (wr.ownsRow (w3.heap.size+1) 113 8 O ((ks.take k).map (·.sum)).length (AA ((ks.take k).map (·.sum))))/\Below w3.heap.size W4 wr) (fun i _=>ks.length -(intOf i).toNat)
 case atStart=>exact⟨0,_,Nat.zero_le _,rfl,yC,⟨rfl,.inl ⟨rfl,rfl⟩⟩,Below.refl _ _⟩
 case round=>
  clear x0 x1 x2 x3 x4 x5 x6 x7 yC;obtain⟨k,O,xA,rfl,HZ,HO,zA⟩:=hrel;obtain⟨x0,x1,x2,x3,x4,x5,x6,x7⟩:=By.keep yB.o zA (by omega);have xG:w3.heap.size+1<=wr.heap.size:=by have:=zA.size;omega
  by_cases hlt:k<ks.length
  ·obtain⟨b,off,ha,hb,hc⟩:=(BP.below zE.o.k (B4.trans (zA.mono (by omega)))).at hlt
   subst ha;have HG:Hid (ks[k]?=some ks[k]):=Uu hlt;obtain⟨c0,c1,c2,ra,rc,c3,_⟩:=hc k _ HG.o;have yZ:b<wr.heap.size:=by omega
   have HN:Hid ((ks.take (k+1)).map (·.sum)=(ks.take k).map (·.sum)++[ks[k].sum]):=by
    show _=_;rw[Uv hlt,List.map_append];rfl
   have xB:((ks.take k).map (·.sum)).length<=600:=by simp;omega
   clear hc;generalize ks[k]=x at *
   generalize (ks.take k).map (·.sum)=Os at *
   obtain⟨W5,zK⟩:∃W,W=wr.alloc (.cells #[.string x.sum,.int .i64 x.born,.string x.text,.slice ra x.refs.length rc] 115):=⟨_,rfl⟩;have xF:=(AC zK).2.1;have b5:=(AC zK).1;have Z5:=(AC zK).2.2;have HOr:Hid _:=HO.o;have zY:Hid _:=Ag HO.o b5;have zP:Hid _:=Aa.below HZ.o b5;have zX:Hid (Below w3.heap.size W4 W5):=zA.trans (b5.mono (by omega))
   have P5:W5.drew.cell? ⟨w3.heap.size,5,none⟩=some O/\W5.drew.cell? ⟨wr.heap.size,0,none⟩=some (.string x.sum):=⟨(zP.o 5 _ rfl).1,(Z5 0 _ rfl).1⟩;have D5:Below W5.heap.size W5 W5.drew:=(Below.refl _ _).drew;have yA:Hid _:=zK;clear zK Z5 HO HZ;go_upto_region 5 with fail;rw[←yA.o];clear yA x0 x1 x2 x3 x4 x5 x6 x7 c0 c1 c2 c3;obtain⟨zQ,zR⟩:=P5
   have zT:∀g,O.ownBlock=some g->w3.heap.size+1<=g/\g<wr.heap.size:=fun g hg=>Af HOr.o hg;have xD:wr.heap.size≠w3.heap.size:=by omega
   go_region_law (first
    |(go_simp;go_at_call 58;refine(GU x.sum W5.drew).mono ?_;rintro e w6 ⟨rfl,yH⟩;have b6:Below W5.heap.size W5 w6:=D5.trans yH;have yN:w6.cell? ⟨w3.heap.size,5,none⟩=some O:=(b6.cell (p:=⟨w3.heap.size,5,none⟩) (by simp;omega)).trans zQ;have yD:w6.cell? ⟨wr.heap.size,0,none⟩=some (.string x.sum):=(b6.cell (p:=⟨wr.heap.size,0,none⟩) (by simp;omega)).trans zR;have b7:Below W5.heap.size W5 (w6.alloc (DI x.sum)):=b6.alloc b6.size _;have yE:(w6.alloc (DI x.sum)).cell? ⟨w3.heap.size,5,none⟩=some O:=(b7.cell (p:=⟨w3.heap.size,5,none⟩) (by simp;omega)).trans zQ;have yF:(w6.alloc (DI x.sum)).cell? ⟨wr.heap.size,0,none⟩=some (.string x.sum):=(b7.cell (p:=⟨wr.heap.size,0,none⟩) (by simp;omega)).trans zR;have z6:=b6.size;obtain⟨g8,c8,w8,hr8,ho8,hg8,ha8⟩:=Qq w6 (w3.heap.size+1) O Os (Ag zY.o b6) x.sum (by omega) (by omega) 103;have Z6:=Aa.below zP.o b6;unfold DI at hr8 yE yF;go_wp2_with fail)
    |(refine BB (by rfl) (.tmp 33) (.tmp 37) 103 103 (by rfl) (by rfl) (by rfl) hr8 ?_;have yP:w8.cell? ⟨wr.heap.size,0,none⟩=some (.string x.sum):=hg8.cell yD (fun e=>by have:=(zT _ e.symm).2;simp at this);have Z8:Aa w8 w3.heap.size _:=(Aa.same Z6 (hg8.block w3.heap.size (by omega) (fun e=>by have:=(zT _ e.symm).1;omega)));have yO:=(Z8 5 _ rfl).1;have F8:=(Z8 5 _ rfl).2))
   all_goals
    have yI:Below w3.heap.size W4 w8:=(zX.o.trans (b6.mono (by omega))).grown hg8 (by omega) (fun g hg=>by have:=(zT g hg).1;omega);have zO:Hid _:=And.intro Z8 (And.intro yI ho8);clear Z8 yI ho8 hg8 hr8 Z6 b6 b7 yH zY zP zX zQ zR yN yD yE yF yO yP F8 ha8 D5 b5;go_wp2;refine⟨⟨k+1,.slice (some ⟨g8,0,none⟩) (Os.length+1) c8,by omega,by go_num,?_,?_,?_⟩,by simp[intOf];omega⟩
    ·exact Aa.set zO.o.1 5 _
    ·rw[HN.o]
     exact ownsRow_setCell_below zO.o.2.2 (by simp<;>omega) _
    ·exact zO.o.2.1.setCell (by simp) _
  ·obtain rfl:k=ks.length:=by omega
   rw[Uw (Us)] at HO;go_wp2;have yQ:(vB w3.heap.size m O (.slice p2 ps.length zD) (.slice l3 ls.length zC)).Nodup:=by
    have hO:∀g,O.ownBlock=some g->w3.heap.size+1<=g:=fun g hg=>(Af HO.o hg).1;have hP:∀g,(Value.slice p2 ps.length zD).ownBlock=some g->w1.heap.size<=g/\g<w2.heap.size:=zN.o;have hL:∀g,(Value.slice l3 ls.length zC).ownBlock=some g->w2.heap.size<=g/\g<w3.heap.size:=zM.o;unfold vB;generalize (Value.slice p2 ps.length zD).ownBlock=bp at *
    generalize (Value.slice l3 ls.length zC).ownBlock=bl at *
    generalize O.ownBlock=bo at *
    cases bo<;>cases bp<;>cases bl<;>simp_all<;>omega
   have hV:∀q∈vB w3.heap.size m O (.slice p2 ps.length zD) (.slice l3 ls.length zC),w.heap.size+1<=q:=by
    intro q hq;unfold vB at hq;simp only[List.mem_cons,List.mem_append,Option.mem_toList] at hq;rcases hq with rfl|rfl|hq|hq|hq
    ·omega
    ·omega
    ·have:=(Af HO.o hq).1;omega
    ·have:=(zN.o _ hq).1;omega
    ·have:=(zM.o _ hq).1;omega
   go_ret;refine⟨_,rfl,⟨m,O,_,_,⟨HZ.o,⟨ks.length,f,by omega,yL.o.keep zA (by omega),?_⟩,?_,?_,?_,by omega,by omega,yQ⟩⟩,B4.trans (zA.mono (by omega))⟩
   ·have hq:W0.drew.heap.size=w.heap.size+1:=yW
    rw[←hq];exact Bd.of HH.o (yJ.o.trans (zA.mono (by simp;omega))) (fun q hq=>by have:=hV q hq;simp;omega) ⟨m,rfl,by rw[hq];omega⟩
   ·have:=HO.o
    rw[List.length_map] at this;exact this.mono (by omega)
   ·refine World.ownsRow.mono ?_ (show w.heap.size+1<=w1.heap.size by omega)
    exact Gr yM.o zA (fun g hg=>by have:=(zN.o g hg).2;omega)
   ·refine World.ownsRow.mono ?_ (show w.heap.size+1<=w2.heap.size by omega)
    exact Gr yK.o zA (fun g hg=>by have:=(zM.o g hg).2;omega)
def kC (x:Kd×Value):List Value:=[.string x.1.sum,.int .i64 x.1.born,.string x.1.text,x.2]
theorem QS (x:Kd×Value):(kC x).length=4:=rfl
structure Bk (w:World) (base:Nat) (T P L:Value) (rs:List Value) (ks:List Kd) (ps:List Pd) (ls:List Ld):Prop where
 len:rs.length=ks.length
 things:w.ownsRow base 115 4 T ks.length (Ab kC (ks.zip rs))
 refs:∀(i:Nat) (k:Kd) (r:Value),ks[i]?=some k->rs[i]?=some r->w.ownsRow base 9 1 r k.refs.length (k.refs.map Value.string)
 pins:w.ownsRow base 108 2 P ps.length (Ab pC ps)
 leases:w.ownsRow base 111 3 L ls.length (Ab lC ls)
 nd:((T::P::L::rs).filterMap Value.ownBlock).Nodup
theorem DW {B:Nat} {w w':World} (h:Below B w.drew w'):Below B w w':=⟨h.os,h.tape,h.output,h.size,h.block⟩
theorem AK {w:World} {base:Nat} {e:TypeId} {size:Nat} {v:Value} {n:Nat} {xs:List Value} (h:w.ownsRow base e size v n xs):∃a c,v=.slice a n c:=by
 rcases h.2 with⟨rfl,rfl⟩|⟨g,cap,zA,rfl,_⟩
 ·exact⟨_,_,rfl⟩
 ·exact⟨_,_,rfl⟩
theorem BF {w:World} {base:Nat} {e:TypeId} {size:Nat} {v:Value} {n:Nat} {xs:List Value} (h:w.ownsRow base e size v n xs) {b:Nat} (zA:∀g,v.ownBlock=some g->g≠b) (j:Nat) (u:Value):(w.setCell ⟨b,j,none⟩ u).ownsRow base e size v n xs:=
 World.ownsRow.kept h (Ae w b j u) (.inr (fun e=>zA b e rfl))
theorem d8 {w:World} {d:Nat} {a0 a1 a2 a3 a4 a5 a6 a7:Value} (h:Aa w d [a0,a1,a2,a3,a4,a5,a6,a7]):w.cell? ⟨d,0,none⟩=some a0/\w.cell? ⟨d,2,none⟩=some a2/\w.cell? ⟨d,3,none⟩=some a3/\w.cell? ⟨d,4,none⟩=some a4/\w.cell? ⟨d,6,none⟩=some a6/\w.cell? ⟨d,7,none⟩=some a7:=
 ⟨(h 0 _ rfl).1,(h 2 _ rfl).1,(h 3 _ rfl).1,(h 4 _ rfl).1,(h 6 _ rfl).1,(h 7 _ rfl).1⟩
def BQ (T P L:Value) (rs:List Value):List Nat:=T.ownBlock.toList++(P.ownBlock.toList++(L.ownBlock.toList++rs.filterMap Value.ownBlock))
theorem Jg (T P L:Value) (rs:List Value):(T::P::L::rs).filterMap Value.ownBlock=BQ T P L rs:=by
 unfold BQ;cases hT:T.ownBlock<;>cases hP:P.ownBlock<;>cases hL:L.ownBlock<;>simp[hT,hP,hL]
theorem QT {sb n:Nat} {T T' P L r:Option Nat} {R:List Nat} (h:(sb::(T.toList++(P.toList++(L.toList++R)))).Nodup) (zA:∀b∈sb::(T.toList++(P.toList++(L.toList++R))),b<n)
 (hr:∀g,r=some g->n<=g) (hT:T'=T∨∃t,T'=some t/\n<=t/\∀g,r=some g->g≠t):(sb::(T'.toList++(P.toList++(L.toList++(R++r.toList))))).Nodup:=by
 rcases hT with rfl|⟨t,rfl,ht,zB⟩
 ·cases T'<;>cases P<;>cases L<;>cases r<;>simp_all [List.nodup_append]<;>grind
 ·cases T<;>cases P<;>cases L<;>cases r<;>simp_all [List.nodup_append]<;>grind
theorem JM {sb:Nat} {T P L:Option Nat} {R:List Nat} (h:(sb::(T.toList++(P.toList++(L.toList++R)))).Nodup):
 (∀g,T=some g->g≠sb)/\(∀g,P=some g->g≠sb/\T≠some g)/\(∀g,L=some g->g≠sb/\T≠some g)/\(∀g∈R,g≠sb/\T≠some g):=by
 cases T<;>cases P<;>cases L<;>simp_all<;>grind
theorem AD {w w':World} {base:Nat} {e:TypeId} {size:Nat} {v:Value} {n:Nat} {xs:List Value} (h:w.ownsRow base e size v n xs) (hs:∀g,v.ownBlock=some g->w'.heap[g]?=w.heap[g]?):w'.ownsRow base e size v n xs:=by
 refine⟨h.1,?_⟩;rcases h.2 with hn|⟨g,cap,zA,rfl,zB,hg,rest⟩
 ·exact .inl hn
 ·exact .inr ⟨g,cap,zA,rfl,zB,(hs g rfl).trans hg,rest⟩
theorem FN {ks:List Kd} (zB:(ks.map (·.sum)).Nodup) {u v:Kd} (hu:u∈ks) (hv:v∈ks) (h:u.sum=v.sum):u=v:=by
 induction ks with
 |nil=>cases hu
 |cons x xs ih=>
  simp only[List.map_cons,List.nodup_cons,List.mem_map,not_exists,not_and] at zB;rcases List.mem_cons.1 hu with zA|zA<;>rcases List.mem_cons.1 hv with hv'|hv'
  ·rw[zA,hv']
  ·exact absurd (zA▸h.symm) (zB.1 v hv')
  ·exact absurd (hv'▸h) (zB.1 u zA)
  ·exact ih zB.2 zA hv'
def z7:List Value:=[.int .i64 0,.int .i64 0,.int .i64 0,.int .i64 0,.slice none 0 0,.slice none 0 0,.slice none 0 0]
theorem Pt {w:World} {b:Nat} (h:Aa w b z7):(w.cell? ⟨b,0,none⟩=some (.int .i64 0)/\w.frozen? ⟨b,0,none⟩=false)/\(w.cell? ⟨b,1,none⟩=some (.int .i64 0)/\w.frozen? ⟨b,1,none⟩=false)/\(w.cell? ⟨b,2,none⟩=some (.int .i64 0)/\w.frozen? ⟨b,2,none⟩=false)/\(w.cell? ⟨b,3,none⟩=some (.int .i64 0)/\w.frozen? ⟨b,3,none⟩=false)/\(w.cell? ⟨b,4,none⟩=some (.slice none 0 0)/\w.frozen? ⟨b,4,none⟩=false)/\(w.cell? ⟨b,5,none⟩=some (.slice none 0 0)/\w.frozen? ⟨b,5,none⟩=false)/\(w.cell? ⟨b,6,none⟩=some (.slice none 0 0)/\w.frozen? ⟨b,6,none⟩=false):=
 ⟨h 0 _ rfl,h 1 _ rfl,h 2 _ rfl,h 3 _ rfl,h 4 _ rfl,h 5 _ rfl,h 6 _ rfl⟩
theorem Sc {w:World} {b:Nat} (h:Aa w b z7) (a0 a1 a2 a3 a4 a5 a6:Value):Aa (((((((w.setCell ⟨b,0,none⟩ a0).setCell ⟨b,1,none⟩ a1).setCell ⟨b,2,none⟩ a2).setCell ⟨b,3,none⟩ a3).setCell ⟨b,4,none⟩ a4).setCell ⟨b,5,none⟩ a5).setCell ⟨b,6,none⟩ a6) b [a0,a1,a2,a3,a4,a5,a6]:=
 (((((((h.set 0 a0).set 1 a1).set 2 a2).set 3 a3).set 4 a4).set 5 a5).set 6 a6)
theorem EU {w:World} {base:Nat} {e:TypeId} {size:Nat} {v:Value} {n:Nat} {xs:List Value} (h:w.ownsRow base e size v n xs) {b:Nat} (zA:∀g,v.ownBlock=some g->g≠b) (a0 a1 a2 a3 a4 a5 a6:Value):(((((((w.setCell ⟨b,0,none⟩ a0).setCell ⟨b,1,none⟩ a1).setCell ⟨b,2,none⟩ a2).setCell ⟨b,3,none⟩ a3).setCell ⟨b,4,none⟩ a4).setCell ⟨b,5,none⟩ a5).setCell ⟨b,6,none⟩ a6).ownsRow base e size v n xs:=
 BF (BF (BF (BF (BF (BF (BF h zA 0 _) zA 1 _) zA 2 _) zA 3 _) zA 4 _) zA 5 _) zA 6 _
theorem EM {B:Nat} {a w:World} (h:Below B a w) {b:Nat} (hb:B<=b) (a0 a1 a2 a3 a4 a5 a6:Value):Below B a (((((((w.setCell ⟨b,0,none⟩ a0).setCell ⟨b,1,none⟩ a1).setCell ⟨b,2,none⟩ a2).setCell ⟨b,3,none⟩ a3).setCell ⟨b,4,none⟩ a4).setCell ⟨b,5,none⟩ a5).setCell ⟨b,6,none⟩ a6):=
 ((((((h.setCell hb a0).setCell hb a1).setCell hb a2).setCell hb a3).setCell hb a4).setCell hb a5).setCell hb a6
def Oc (b:Nat) (P L:Value):Prop:=(∀g,P.ownBlock=some g->g≠b)/\(∀g,L.ownBlock=some g->g≠b)/\(∀g,P.ownBlock=some g->L.ownBlock=some g->False)
theorem Fh (base d m:Nat) (O P L:Value) (wd now given births:Int) (ks:List Kd) (ps:List Pd) (ls:List Ld) (w:World) (hd:Dr w base d m O P L wd now given births ks ps ls) (xU:(ks.map (·.sum)).Nodup) (vC:∀k∈ks,(k.sum.size:Int)=wd) (hk:ks.length<=600) (hp:ps.length<=100) (hl:ls.length<=200) (yL:∀k∈ks,k.refs.length<=30):
 Calls prog 23 #[.pointer (some ⟨d,0,none⟩)] w fun e w'=>∃T P' L' rs,e=.returned (.agg #[.int .i64 wd,.int .i64 now,.int .i64 given,.int .i64 births,T,P',L'])/\Bk w' w.heap.size T P' L' rs ks ps ls/\Uq w w':=by
 obtain⟨pa,yC,rfl⟩:=AK hd.pin;obtain⟨la,yB,rfl⟩:=AK hd.lea;obtain⟨oa,vK,rfl⟩:=AK hd.ord;have HD:Hid _:=hd;have vM:=hd.box.lt;obtain⟨W,hW⟩:∃W,W=w.alloc (.cells #[.int .i64 0,.int .i64 0,.int .i64 0,.int .i64 0,.slice none 0 0,.slice none 0 0,.slice none 0 0] 32):=⟨_,rfl⟩;have yH:=(AC hW).1;have yV:=(AC hW).2.1;have ZW:Aa W w.heap.size z7:=(AC hW).2.2;have zX:Hid _:=hd.below yH
 have zI:Hid (∀X,Uq W X->Calls prog 43 #[.slice pa ps.length yC] X fun e w'=>∃a' c',e=.returned (.slice a' ps.length c')/\w'.ownsRow X.heap.size 108 2 (.slice a' ps.length c') ps.length (Ab pC ps)/\Uq X w'):=
  fun X hX=>ET pa yC ps X (Bo.own (Ag zX.o.pin hX)) (by omega)
 have zE:Hid (∀X,Uq W X->Calls prog 44 #[.slice la ls.length yB] X fun e w'=>∃a' c',e=.returned (.slice a' ls.length c')/\w'.ownsRow X.heap.size 111 3 (.slice a' ls.length c') ls.length (Ab lC ls)/\Uq X w'):=
  fun X hX=>Em la yB ls X (Bj.own (Ag zX.o.lea hX)) (by omega)
 have HS:Hid (∀X,Uq W X->X.cell? ⟨d,0,none⟩=some (.int .i64 wd)/\X.cell? ⟨d,2,none⟩=some (.int .i64 now)/\X.cell? ⟨d,3,none⟩=some (.int .i64 given)/\X.cell? ⟨d,4,none⟩=some (.int .i64 births)/\X.cell? ⟨d,6,none⟩=some (.slice pa ps.length yC)/\X.cell? ⟨d,7,none⟩=some (.slice la ls.length yB)):=
  fun X hX=>d8 (zX.o.box.below hX)
 have D0:Below W.heap.size W W.drew:=(Below.refl _ _).drew;have D1:∀o,Uq W (W.alloc o).drew:=fun o=>(Ur).drew;have HW:Hid _:=hW;have yO:Hid _:=ZW;have zL:Hid _:=yV;clear hd hW ZW yV;go_enter func23,ntmps23;go_upto_region 1 with fail;rw[←HW.o];clear HW
 go_cut [3] (fun v wx=>∃(sb:Nat) (a1 a2:Option Addr) (c1 c2:Nat),v=.pointer (some ⟨sb,0,none⟩)/\Hid (Aa wx sb [.int .i64 wd,.int .i64 now,.int .i64 given,.int .i64 births,.slice none 0 0,.slice a1 ps.length c1,.slice a2 ls.length c2]/\wx.ownsRow W.heap.size 108 2 (.slice a1 ps.length c1) ps.length (Ab pC ps)/\wx.ownsRow W.heap.size 111 3 (.slice a2 ls.length c2) ls.length (Ab lC ls)/\Oc sb (.slice a1 ps.length c1) (.slice a2 ls.length c2)/\W.heap.size<=sb/\Uq W wx))
 case first=>
  go_region_held3 (fun w'=>w'.cell? ⟨d,0,none⟩=some (.int .i64 wd)/\w'.cell? ⟨d,2,none⟩=some (.int .i64 now)/\w'.cell? ⟨d,3,none⟩=some (.int .i64 given)/\w'.cell? ⟨d,4,none⟩=some (.int .i64 births)/\w'.cell? ⟨d,6,none⟩=some (.slice pa ps.length yC)/\w'.cell? ⟨d,7,none⟩=some (.slice la ls.length yB))
   (first
     |with_reducible exact HS.o _ D0
     |with_reducible exact HS.o _ (D1 _)
     |with_reducible exact HS.o _ B1
     |with_reducible exact HS.o _ B2
     |with_reducible exact HS.o _ (B1.alloc B1.size _)
     |with_reducible exact HS.o _ (B2.alloc B2.size _)
     |with_reducible exact HS.o _ (EM B2 zF _ _ _ _ _ _ _))
   (first
     |(go_at_call 43;guard_target=~Calls prog 43 _ (World.drew (World.alloc W _)) _;refine(zI.o (W.alloc (.cells #[.int .i64 0,.int .i64 0,.int .i64 0,.int .i64 0,.slice none 0 0,.slice none 0 0,.slice none 0 0] 32)).drew (D1 _)).mono ?_;rintro e w1 ⟨a1,c1,rfl,zG,zJ⟩;have B1:Below W.heap.size W w1:=(D1 _).trans (zJ.mono (by simp));have nA:Aa w1 W.heap.size z7:=(Aa.below (w:=W.alloc (.cells #[.int .i64 0,.int .i64 0,.int .i64 0,.int .i64 0,.slice none 0 0,.slice none 0 0,.slice none 0 0] 32)) (Aa.new W _ _) (DW zJ)))
     |(go_at_call 43;guard_target=~Calls prog 43 _ (World.drew W) _;refine(zI.o W.drew D0).mono ?_;rintro e w1 ⟨a1,c1,rfl,zG,zJ⟩;have B1:Below W.heap.size W w1:=D0.trans zJ)
     |(go_at_call 44;have tag:=nA;refine(zE.o w1 B1).mono ?_;rintro e w2 ⟨a2,c2,rfl,zH,zC⟩;have B2:Below W.heap.size W w2:=B1.trans (zC.mono B1.size);have n2:Aa w2 W.heap.size z7:=(Aa.below nA zC);have zF:W.heap.size<=W.heap.size:=Us;obtain⟨⟨y0,q0⟩,⟨y1,q1⟩,⟨y2,q2⟩,⟨y3,q3⟩,⟨y4,q4⟩,⟨y5,q5⟩,y6,q6⟩:=Pt n2)
     |(go_at_call 44;guard_target=~Calls prog 44 _ (World.alloc w1 _) _;refine(zE.o (w1.alloc (.cells #[.int .i64 0,.int .i64 0,.int .i64 0,.int .i64 0,.slice none 0 0,.slice none 0 0,.slice none 0 0] 32)) (B1.alloc B1.size _)).mono ?_;rintro e w2 ⟨a2,c2,rfl,zH,zC⟩;have B2:Below W.heap.size W w2:=(B1.alloc B1.size _).trans (zC.mono (by have:=B1.size;simp;omega));have nB:Aa w2 w1.heap.size z7:=(Aa.below (Aa.new w1 _ _) zC);have zF:W.heap.size<=w1.heap.size:=B1.size;obtain⟨⟨y0,q0⟩,⟨y1,q1⟩,⟨y2,q2⟩,⟨y3,q3⟩,⟨y4,q4⟩,⟨y5,q5⟩,y6,q6⟩:=Pt nB)
     |(go_at_call 44;refine(zE.o w1 B1).mono ?_;rintro e w2 ⟨a2,c2,rfl,zH,zC⟩;have nC:=zG;have B2:Below W.heap.size W w2:=B1.trans (zC.mono B1.size)))
  all_goals (go_wp2_with fail;go_meet)
  all_goals first
   |(have tag:=nA
     have zz:=zL.o;have l1:∀g,(Value.slice a1 ps.length c1).ownBlock=some g->W.heap.size+1<=g/\g<w1.heap.size:=fun g hg=>by have:=Af zG hg;simp at this;omega
     have l2:∀g,(Value.slice a2 ls.length c2).ownBlock=some g->w1.heap.size<=g:=fun g hg=>(Af zH hg).1;have z1:W.heap.size+1<=w1.heap.size:=by have:=zJ.size;simp at this;omega
     exact⟨W.heap.size,a1,a2,c1,c2,rfl,Sc n2 _ _ _ _ _ _ _,EU (Ag (zG.mono (by simp)) zC) (fun g hg=>by have:=l1 g hg;omega) _ _ _ _ _ _ _,EU (zH.mono (by omega)) (fun g hg=>by have:=l2 g hg;omega) _ _ _ _ _ _ _,⟨fun g hg=>by have:=l1 g hg;omega,fun g hg=>by have:=l2 g hg;omega,fun g hg hg'=>by have:=l1 g hg;have:=l2 g hg';omega⟩,Us,EM B2 (Us) _ _ _ _ _ _ _⟩)
   |(have tag:=nB
     have l1:∀g,(Value.slice a1 ps.length c1).ownBlock=some g->W.heap.size<=g/\g<w1.heap.size:=fun g hg=>by have:=Af zG hg;simp at this;omega
     have l2:∀g,(Value.slice a2 ls.length c2).ownBlock=some g->w1.heap.size+1<=g:=fun g hg=>by have:=(Af zH hg).1;simp at this;omega
     exact⟨w1.heap.size,a1,a2,c1,c2,rfl,Sc nB _ _ _ _ _ _ _,EU (Ag (Ag (zG.mono (by simp)) (Ur)) zC) (fun g hg=>by have:=l1 g hg;omega) _ _ _ _ _ _ _,EU (zH.mono (by simp;omega)) (fun g hg=>by have:=l2 g hg;omega) _ _ _ _ _ _ _,⟨fun g hg=>by have:=l1 g hg;omega,fun g hg=>by have:=l2 g hg;omega,fun g hg hg'=>by have:=l1 g hg;have:=l2 g hg';omega⟩,zF,EM B2 zF _ _ _ _ _ _ _⟩)
   |(have tag:=nC
     have l1:∀g,(Value.slice a1 ps.length c1).ownBlock=some g->W.heap.size<=g/\g<w1.heap.size:=fun g hg=>by have:=Af zG hg;simp at this;omega
     have l2:∀g,(Value.slice a2 ls.length c2).ownBlock=some g->w1.heap.size<=g/\g<w2.heap.size:=fun g hg=>Af zH hg;have z2:=zC.size;exact⟨w2.heap.size,a1,a2,c1,c2,rfl,Aa.new w2 _ _,Ag (Ag (zG.mono (by simp)) zC) (Ur),Ag (zH.mono B1.size) (Ur),⟨fun g hg=>by have:=l1 g hg;omega,fun g hg=>by have:=l2 g hg;omega,fun g hg hg'=>by have:=l1 g hg;have:=l2 g hg';omega⟩,B2.size,B2.alloc B2.size _⟩)
 case rest=>
  revert wc;intro wN hcut;obtain⟨sb,a1,a2,c1,c2,rfl,HC⟩:=hcut;have yY:Hid (Uq w wN):=yH.trans (HC.o.2.2.2.2.2.mono yH.size);have dN:=(zX.o.box.below HC.o.2.2.2.2.2);obtain⟨e5,_⟩:=dN 5 _ rfl;have zN:=HC.o.2.2.2.2.2.size;have vQ:W.heap.size<=sb:=HC.o.2.2.2.2.1;have xD:Hid (Aa wN w.heap.size z7):=Aa.below (v:=.int .i64 0) (l:=z7.tail) yO.o HC.o.2.2.2.2.2;clear dN zI zE HS D0 D1 yO;go_wp2
  go_loopw [40] (fun i wr=>∃(k:Nat) (T:Value) (rs:List Value),k<=ks.length/\i=.int .i64 k/\Hid (Aa wr sb [.int .i64 wd,.int .i64 now,.int .i64 given,.int .i64 births,T,.slice a1 ps.length c1,.slice a2 ls.length c2]/\Aa wr w.heap.size z7/\wr.ownsRow W.heap.size 115 4 T k (Ab kC ((ks.take k).zip rs))/\rs.length=k/\(∀(i:Nat) (x:Kd) (r:Value),(ks.take k)[i]?=some x->rs[i]?=some r->wr.ownsRow W.heap.size 9 1 r x.refs.length (x.refs.map Value.string))/\wr.ownsRow W.heap.size 108 2 (.slice a1 ps.length c1) ps.length (Ab pC ps)/\wr.ownsRow W.heap.size 111 3 (.slice a2 ls.length c2) ls.length (Ab lC ls)/\(sb::BQ T (.slice a1 ps.length c1) (.slice a2 ls.length c2) rs).Nodup)/\Uq w wr) (fun i _=>ks.length -(intOf i).toNat)
  case atStart=>
   refine⟨0,.slice none 0 0,[],Nat.zero_le _,rfl,⟨HC.o.1,xD.o,⟨rfl,.inl ⟨rfl,rfl⟩⟩,rfl,fun i x r hx=>by simp at hx,HC.o.2.1,HC.o.2.2.1,?_⟩,yY.o⟩;have h3:=HC.o.2.2.2.1;unfold Oc at h3;unfold BQ;generalize (Value.slice a1 ps.length c1).ownBlock=x1 at *
   generalize (Value.slice a2 ls.length c2).ownBlock=x2 at *
   cases x1<;>cases x2<;>simp_all [Value.ownBlock]<;>grind
  case round=>
   obtain⟨k,T,rs,vN,rfl,HI,zB⟩:=hrel;by_cases hlt:k<ks.length
   ·obtain⟨n,f,hn,hM,hH⟩:=HD.o.map
    have yM:=zB.size;have ho:wr.ownsRow base 113 8 (.slice oa ks.length vK) ks.length (AA (ks.map (·.sum))):=Gr HD.o.ord zB (fun g hg=>(Af HD.o.ord hg).2);obtain⟨og,oc,xL,_,vO⟩:=CM ho (fun e=>by injection e with _ h2 _;omega);cases xL;have HG:Hid (ks[k]?=some ks[k]):=Uu hlt;have zD:ks[k]∈ks:=List.getElem_mem hlt;have vF:=vC _ zD;have vE:=yL _ zD
    have yS:(ks.map (·.sum))[k]?=some ks[k].sum:=by simp[hlt]
    have zA:∀j,j<8->wr.cell? ⟨og,k *8+j,none⟩=some (.int .u8 (kB ks[k].sum j)):=fun j hj=>(ho.cellAt _ (by omega)).trans (EK yS hj);obtain⟨ra,rc,yR,xA⟩:∃ra rc,f (keyL ks[k].sum)=some (Dc ks[k] ra rc)/\Hid (Ad w w.heap.size ra ks[k].refs):=by
     rcases hH _ vF with⟨_,xW⟩|⟨u,ra,rc,hu,vD,xN,xY⟩
     ·exact absurd ⟨_,zD,rfl⟩ xW
     ·obtain rfl:=FN xU hu zD vD
      exact⟨ra,rc,xN,xY.row⟩
    have hlk:∀X,Uq wr X->(Instr.lookup 100 (.map (some m)) (Bt ks[k].sum) false).run prog X=.ok (Dc ks[k] ra rc) X:=fun X hX=>by
     have:=(hM.keep (zB.trans (hX.mono yM)) hM.lt).look keyed underlying100 (Hs _) (Dt ks[k].sum);rw[yR] at this;exact this
    have dr:Aa wr d _:=Aa.below HD.o.box zB;have yQ:=zA 0 (by omega);have xE:=zA 1 (by omega);have xF:=zA 2 (by omega);have xG:=zA 3 (by omega);have xH:=zA 4 (by omega);have xI:=zA 5 (by omega);have xJ:=zA 6 (by omega);have xK:=zA 7 (by omega);rw[Nat.add_zero] at yQ;have HX:Hid (ks.take (k+1)=ks.take k++[ks[k]]):=Uv hlt;unfold Bt BW Dc at hlk;clear ho zA yS hH yR zD hM;generalize ks[k]=x at *
    obtain⟨W1,zR⟩:∃W1,W1=wr.alloc (.cells #[.int .u8 (kB x.sum 0),.int .u8 (kB x.sum 1),.int .u8 (kB x.sum 2),.int .u8 (kB x.sum 3),.int .u8 (kB x.sum 4),.int .u8 (kB x.sum 5),.int .u8 (kB x.sum 6),.int .u8 (kB x.sum 7)] 113):=⟨_,rfl⟩;have b1:=(AC zR).1;have z1:=(AC zR).2.1;have K1:=(AC zR).2.2
    have yD:Hid (∀X,Uq W1 X->X.cell? ⟨d,1,none⟩=some (.map (some m))/\(X.cell? ⟨wr.heap.size,0,none⟩=some (.int .u8 (kB x.sum 0))/\X.cell? ⟨wr.heap.size,1,none⟩=some (.int .u8 (kB x.sum 1))/\X.cell? ⟨wr.heap.size,2,none⟩=some (.int .u8 (kB x.sum 2))/\X.cell? ⟨wr.heap.size,3,none⟩=some (.int .u8 (kB x.sum 3))/\X.cell? ⟨wr.heap.size,4,none⟩=some (.int .u8 (kB x.sum 4))/\X.cell? ⟨wr.heap.size,5,none⟩=some (.int .u8 (kB x.sum 5))/\X.cell? ⟨wr.heap.size,6,none⟩=some (.int .u8 (kB x.sum 6))/\X.cell? ⟨wr.heap.size,7,none⟩=some (.int .u8 (kB x.sum 7)))/\(Instr.lookup 100 (.map (some m)) (.agg #[.int .u8 (kB x.sum 0),.int .u8 (kB x.sum 1),.int .u8 (kB x.sum 2),.int .u8 (kB x.sum 3),.int .u8 (kB x.sum 4),.int .u8 (kB x.sum 5),.int .u8 (kB x.sum 6),.int .u8 (kB x.sum 7)]) false).run prog X=.ok (.agg #[.string x.sum,.int .i64 x.born,.string x.text,.slice ra x.refs.length rc]) X):=
     fun X hX=>⟨((dr.below (b1.trans (hX.mono b1.size))) 1 _ rfl).1,SU (hX.block _ (by omega)) K1,hlk X (b1.trans (hX.mono b1.size))⟩
    have D0:Below W1.heap.size W1 W1.drew:=(Below.refl _ _).drew;have D1:∀o,Uq W1 (W1.alloc o).drew:=fun o=>(Ur).drew;have yN:Hid _:=zR;have zP:Hid _:=z1;have yX:Hid _:=b1;clear zR z1 hlk K1 b1 dr;go_upto_region 5 with fail;rw[←yN.o];clear yN yQ xE xF xG xH xI xJ xK
    go_region_held3 (fun X=>X.cell? ⟨d,1,none⟩=some (.map (some m))/\(X.cell? ⟨wr.heap.size,0,none⟩=some (.int .u8 (kB x.sum 0))/\X.cell? ⟨wr.heap.size,1,none⟩=some (.int .u8 (kB x.sum 1))/\X.cell? ⟨wr.heap.size,2,none⟩=some (.int .u8 (kB x.sum 2))/\X.cell? ⟨wr.heap.size,3,none⟩=some (.int .u8 (kB x.sum 3))/\X.cell? ⟨wr.heap.size,4,none⟩=some (.int .u8 (kB x.sum 4))/\X.cell? ⟨wr.heap.size,5,none⟩=some (.int .u8 (kB x.sum 5))/\X.cell? ⟨wr.heap.size,6,none⟩=some (.int .u8 (kB x.sum 6))/\X.cell? ⟨wr.heap.size,7,none⟩=some (.int .u8 (kB x.sum 7)))/\(Instr.lookup 100 (.map (some m)) (.agg #[.int .u8 (kB x.sum 0),.int .u8 (kB x.sum 1),.int .u8 (kB x.sum 2),.int .u8 (kB x.sum 3),.int .u8 (kB x.sum 4),.int .u8 (kB x.sum 5),.int .u8 (kB x.sum 6),.int .u8 (kB x.sum 7)]) false).run prog X=.ok (.agg #[.string x.sum,.int .i64 x.born,.string x.text,.slice ra x.refs.length rc]) X)
     (first|with_reducible exact yD.o _ D0|with_reducible exact yD.o _ (D1 _))
     (fail)
    all_goals
     clear yD D0 D1;obtain⟨W2,zS⟩:∃W2,W2=(W1.alloc (.cells #[.string x.sum,.int .i64 x.born,.string x.text,.slice ra x.refs.length rc] 115)).drew:=⟨_,rfl⟩;have b2:Below W1.heap.size W1 W2:=by rw[zS];exact(Ur).drew
     have z2:W2.heap.size=W1.heap.size+1:=by rw[zS];simp
     have K2:Aa W2 W1.heap.size [.string x.sum,.int .i64 x.born,.string x.text,.slice ra x.refs.length rc]:=by rw[zS];exact Aa.new W1 _ _
     have z1:=zP.o;have yF:Below wr.heap.size wr W2:=yX.o.trans (b2.mono (by omega));have R2:Ad W2 W2.heap.size ra x.refs:=Ad.mono (Ad.below xA.o (zB.trans (yF.mono yM))) (by omega);rw[←zS];obtain⟨k3,_⟩:=K2 3 _ rfl;have yE:Hid _:=z2;have xX:x.refs.length<=1048576:=by omega
     clear zS z1 z2;go_wp2_with fail;refine(Di ra rc x.refs W2 R2 xX).mono ?_;rintro e w3 ⟨a3,c3,rfl,yK,zU⟩;clear k3;have z1:=zP.o;have z2:=yE.o;have zY:Below wr.heap.size wr w3:=yF.trans (zU.mono (by omega));have z3:=zU.size;obtain⟨i1,i2,i3,i4,i5,i6,i7,i8⟩:=HI.o;have zW:=zL.o;have S3:=Aa.below i1 zY;obtain⟨ta,tc,rfl⟩:=AK i3;obtain⟨s4,f4⟩:=S3 4 _ rfl;have xZ:sb<wr.heap.size:=i1.lt
     have yJ:¬sb=W1.heap.size:=by omega
     have xV:¬W1.heap.size=sb:=by omega
     obtain⟨k0,k1,k2⟩:=Aa.c3 (Aa.below K2 zU) 0 1 2;obtain⟨k3,g3⟩:=Aa.below K2 zU 3 _ rfl;have xC:Hid _:=Ag i3 zY;have zQ:∀g,(Value.slice ta k tc).ownBlock=some g->W.heap.size<=g/\g<wr.heap.size:=fun g hg=>Af i3 hg;have yG:∀g,(Value.slice a3 x.refs.length c3).ownBlock=some g->W2.heap.size<=g/\g<w3.heap.size:=fun g hg=>Af yK hg;have yZ:Hid _:=yK;have zO:Hid _:=zY;have xB:Hid _:=S3
     have vJ:W.heap.size<=w3.heap.size:=by omega
     obtain⟨i0,hi,vG,vH,vI⟩:=info_parts Pr;have yP:Hid _:=z3;clear K2 b2 yF R2 i1 i2 i3 i4 i5 i6 i7 i8 zU yK zY S3 z1 z2 z3 zW;go_wp2_with (first
      |(at_builtin;refine wpList_append_own_at _ rfl _ _ 28 rfl W.heap.size 115 i0 _ 4 64 underlying28 hi vG vH vI rfl (by decide) _ k (Ab kC ((ks.take k).zip rs)) rfl ?d0 ⟨w3.heap.size,0,none⟩ 1 1 (kC (x,.slice a3 x.refs.length c3)) rfl rfl ?d2 ?d3 ?d4 ?d5 ?d6 ?_)
      |go_in)
     case d0=>exact Ag (BF xC.o (fun g hg=>by have:=zQ g hg;have:=zP.o;omega) 3 _) (Ur)
     case d2=>
      intro j u hu;rw[Go.WideShapes.add_plain,Nat.zero_add];have:=(Aa.new (w3.setCell ⟨W1.heap.size,3,none⟩ (.slice a3 x.refs.length c3)) (kC (x,.slice a3 x.refs.length c3)) 115) j u hu;simpa [kC] using this.1
     case d3=>
      intro u hu;simp[kC] at hu;rcases hu with rfl|rfl|rfl|rfl<;>rfl
     case d4=>unfold maxLen;omega
     case d5=>omega
     case d6=>simp;omega
     intro v4 w4 zM zV xT zT;obtain⟨g4,c4,rfl,xO,xP⟩:=CM zM (fun e=>by subst e;rcases zM.2 with⟨_,hn⟩|⟨_,_,_,e,_⟩<;>first|omega|cases e);obtain⟨i1,i2,i3,i4,i5,i6,i7,i8⟩:=HI.o;have nf:=JM i8;have z1:=zP.o;have z2:=yE.o;have z3:=yP.o;have zW:=zL.o;have hX:∀b,b<w3.heap.size->b≠W1.heap.size->(Value.slice ta k tc).ownBlock≠some b->w4.heap[b]?=w3.heap[b]?:=fun b hb zJ zC=>by
      rw[zV.block b (by simp;omega) (fun e=>zC e.symm),Below.heap_alloc _ _ _ (by simp;omega),Below.heap_setCell _ _ _ _ (by simpa using zJ)]
     have S4:=Aa.same xB.o (hX sb (by omega) yJ (fun e=>nf.1 _ e rfl));obtain⟨_,vL⟩:=S4 4 _ rfl;obtain⟨vP,_⟩:=S4 4 _ rfl;have xQ:g4≠sb:=by
      rcases zT with ha|ha
      ·exact nf.1 g4 ha.symm
      ·simp[Value.ownBlock] at ha;omega
     have HF:Hid _:=And.intro S4 (And.intro hX (And.intro zM (And.intro zT zV)));clear S4 hX zM zT zV i1 i2 i3 i4 i5 i6 i7 i8 nf z1 z2 z3 zW s4 f4 k0 k1 k2 k3 g3 xT;go_wp2;obtain⟨S4,hX,zM,zT,zV⟩:=HF.o;obtain⟨i1,i2,i3,i4,i5,i6,i7,i8⟩:=HI.o;have nf:=JM i8;have z1:=zP.o;have z2:=yE.o;have z3:=yP.o;have zW:=zL.o
     have hY:∀b,b<w3.heap.size->b≠W1.heap.size->b≠sb->(Value.slice ta k tc).ownBlock≠some b->(w4.setCell ⟨sb,4,none⟩ (.slice (some ⟨g4,0,none⟩) (k+1) c4)).heap[b]?=w3.heap[b]?:=fun b h1 h2 h3 h4=>(Below.heap_setCell _ _ _ _ (by simpa using h3)).trans (hX b h1 h2 h4)
     have zZ:∀b,b<wr.heap.size->b≠sb->(Value.slice ta k tc).ownBlock≠some b->(w4.setCell ⟨sb,4,none⟩ (.slice (some ⟨g4,0,none⟩) (k+1) c4)).heap[b]?=wr.heap[b]?:=fun b h1 h3 h4=>(hY b (by omega) (by omega) h3 h4).trans (zO.o.block b h1);have yW:∀r∈rs,∀g,r.ownBlock=some g->g<wr.heap.size:=by
      intro r hr g hg;obtain⟨i,hi⟩:=List.getElem?_of_mem hr;have xS:i<k:=by have:=(Ut hi).1;omega
      exact(Af (i5 i _ r (by rw[List.getElem?_take_of_lt xS];exact Uu (by omega)) hi) hg).2
     refine⟨⟨k+1,.slice (some ⟨g4,0,none⟩) (k+1) c4,rs++[.slice a3 x.refs.length c3],by omega,by go_num,⟨Aa.set S4 4 _,?_,?_,?_,?_,?_,?_,?_⟩,?_⟩,by simp[intOf];omega⟩
     ·exact Aa.same i2 (zZ w.heap.size (by omega) (by omega) (fun e=>by have:=(zQ _ e).1;omega))
     ·rw[HX.o,List.zip_append (by rw[i4,List.length_take];omega),AT]
      exact BF zM (fun g hg=>by simp[Value.ownBlock] at hg;omega) 4 _
     ·simp[i4]
     ·intro i y r hy hr
      rw[HX.o] at hy;have yI:(ks.take k).length=k:=by rw[List.length_take];omega
      rcases Nat.lt_or_ge i k with h|h
      ·rw[List.getElem?_append_left (by omega)] at hy hr
       refine AD (i5 i y r hy hr) (fun g hg=> ?_);have:=nf.2.2.2 g (List.mem_filterMap.2 ⟨r,Ux hr,hg⟩);exact zZ g (yW r (Ux hr) g hg) this.1 this.2
      ·have xR:i=k:=by have:=(Ut hr).1;simp at this;omega
       subst xR;rw[List.getElem?_append_right (by omega),yI,Nat.sub_self] at hy;rw[List.getElem?_append_right (by omega),i4,Nat.sub_self] at hr;simp at hy hr;subst hy;subst hr;refine AD (World.ownsRow.mono yZ.o (by omega)) (fun g hg=> ?_);have:=yG g hg;exact hY g this.2 (by omega) (by omega) (fun e=>by have:=(zQ g e).2;omega)
     ·exact AD i6 (fun g hg=>zZ g (Af i6 hg).2 (nf.2.1 g hg).1 (nf.2.1 g hg).2)
     ·exact AD i7 (fun g hg=>zZ g (Af i7 hg).2 (nf.2.2.1 g hg).1 (nf.2.2.1 g hg).2)
     ·unfold BQ
      rw[List.filterMap_append];have xM:List.filterMap Value.ownBlock [.slice a3 x.refs.length c3]=(Value.slice a3 x.refs.length c3).ownBlock.toList:=by cases h:(Value.slice a3 x.refs.length c3).ownBlock<;>simp[h]
      rw[xM];refine QT (n:=wr.heap.size) i8 ?_ (fun g hg=>by have:=(yG g hg).1;omega) ?_
      ·intro b hb
       simp only[List.mem_cons,List.mem_append,Option.mem_toList,List.mem_filterMap] at hb;rcases hb with rfl|hb|hb|hb|⟨r,hr,hb⟩
       ·exact xZ
       ·exact(zQ _ hb).2
       ·exact(Af i6 hb).2
       ·exact(Af i7 hb).2
       ·exact yW r hr b hb
      ·rcases zT with ha|ha
       ·exact .inl ha
       ·refine .inr ⟨w3.heap.size+1,by simpa using ha,by omega,fun g hg=>by have:=(yG g hg).2;omega⟩
     ·have hq:Below w.heap.size w w3:=zB.trans (zO.o.mono yM)
      exact(((hq.setCell (by simp;omega) _).alloc (by simp;omega) _).grown zV (by simp;omega) (fun g hg=>by have:=(zQ g hg).1;omega)).setCell (by simp;omega) _
   ·obtain rfl:k=ks.length:=by omega
    obtain⟨i1,i2,i3,i4,i5,i6,i7,i8⟩:=HI.o;have zW:=zL.o;obtain⟨⟨y0,q0⟩,⟨y1,q1⟩,⟨y2,q2⟩,⟨y3,q3⟩,⟨y4,q4⟩,⟨y5,q5⟩,y6,q6⟩:=Pt i2;obtain⟨ta,tc,rfl⟩:=AK i3;obtain⟨x0,x1,x2,x3,x4,x5,x6⟩:=Aa.c7 i1 0 1 2 3 4 5 6;have vA:¬sb=w.heap.size:=by omega
    have yT:¬w.heap.size=sb:=by omega
    have zK:Hid _:=And.intro i2 (And.intro i3 (And.intro i4 (And.intro i5 (And.intro i6 (And.intro i7 i8)))));clear i1 i2 i3 i4 i5 i6 i7 i8 zW;go_wp2;have zW:=zL.o
    have yA:∀{e:TypeId} {size:Nat} {v:Value} {n:Nat} {xs:List Value},wr.ownsRow W.heap.size e size v n xs->(((((((wr.setCell ⟨w.heap.size,0,none⟩ (.int .i64 wd)).setCell ⟨w.heap.size,1,none⟩ (.int .i64 now)).setCell ⟨w.heap.size,2,none⟩ (.int .i64 given)).setCell ⟨w.heap.size,3,none⟩ (.int .i64 births)).setCell ⟨w.heap.size,4,none⟩ (.slice ta ks.length tc)).setCell ⟨w.heap.size,5,none⟩ (.slice a1 ps.length c1)).setCell ⟨w.heap.size,6,none⟩ (.slice a2 ls.length c2)).ownsRow w.heap.size e size v n xs:=fun h=>World.ownsRow.mono (EU h (fun g hg=>by have:=(Af h hg).1;omega) _ _ _ _ _ _ _) (by omega)
    have yU:ks.take ks.length=ks:=Uw (Us);refine bodyPost_ret (v:=.agg #[.int .i64 wd,.int .i64 now,.int .i64 given,.int .i64 births,.slice ta ks.length tc,.slice a1 ps.length c1,.slice a2 ls.length c2]) (by simp[results,results23,go_sem,y0,y1,y2,y3,y4,y5,y6]) rfl ⟨_,_,_,rs,rfl,⟨zK.o.2.2.1,?_,?_,yA zK.o.2.2.2.2.1,yA zK.o.2.2.2.2.2.1,?_⟩,EM zB (Us) _ _ _ _ _ _ _⟩
    ·have:=zK.o.2.1
     rw[yU] at this;exact yA this
    ·intro i y r hy hr
     exact yA (zK.o.2.2.2.1 i y r (by rw[yU];exact hy) hr)
    ·rw[Jg]
     exact(List.nodup_cons.1 zK.o.2.2.2.2.2.2).2
end Go.Proofs.YtflhhhnlhlaehaaGreatDoor
