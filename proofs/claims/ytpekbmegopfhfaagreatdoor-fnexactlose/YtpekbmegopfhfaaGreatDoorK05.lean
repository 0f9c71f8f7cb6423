import Derived.Test.YtpekbmegopfhfaaGreatDoorK04
set_option maxRecDepth 100000
set_option maxHeartbeats 16000000
namespace Go.Proofs.YtpekbmegopfhfaaGreatDoor
open Go.ChangeShapes Go.WideShapes Go.ChangeAt Go.RowKit _root_.Go.Proofs.Tryz
theorem IU {w:World} {b:Nat} {wd now given births:Int} {T P L:Value} (h:AT w b wd now given births T P L):w.cell? (XL b 0)=some (XJ wd)/\w.cell? (XL b 1)=some (XJ now)/\w.cell? (XL b 2)=some (XJ given)/\w.cell? (XL b 3)=some (XJ births)/\w.cell? (XL b 4)=some T/\w.cell? (XL b 5)=some P/\w.cell? (XL b 6)=some L:=
 ⟨h.1,h.2.1,h.2.2.1,h.2.2.2.1,h.2.2.2.2.1,h.2.2.2.2.2.1,h.2.2.2.2.2.2.1⟩
def vB (d m:Nat) (O P L:Value):List Nat:=d::m::(O.ownBlock.toList++(P.ownBlock.toList++L.ownBlock.toList))
def SG (base:Nat) (V:List Nat):Prop:=∃m,V[1]?=some m/\m<base+4
def Du (w:World) (base:Nat) (V:List Nat) (a:Option Addr) (ss:List ByteArray):Prop:=
 ss=[]∨∃b off,a=some ⟨b,off,none⟩/\b<w.heap.size/\b∉V/\((b<base/\SG base V)∨(base<=b/\∃cur,w.heap[b]?=some (.cells cur 9)))/\∀i s,ss[i]?=some s->w.cell? (XL b (off+i))=some (.string s)
theorem Du.row {w:World} {base:Nat} {V:List Nat} {a:Option Addr} {ss:List ByteArray} (h:Du w base V a ss):Ae w w.heap.size a ss:=by
 rcases h with h|⟨b,off,ha,hb,_,_,hc⟩
 ·exact .inl h
 ·exact .inr ⟨b,off,ha,hb,hc⟩
def BC (w:World) (base:Nat) (V:List Nat) (wd:Int) (ks:List Kd) (f:Lit->Option Value):Prop:=
 ∀s:ByteArray,(s.size:Int)=wd->(f (keyL s)=none/\¬Au ks s)∨∃u ra rc,u∈ks/\u.sum=s/\f (keyL s)=some (DK u ra rc)/\Du w base V ra u.refs
theorem BC.of {W w:World} {V:List Nat} {wd:Int} {ks:List Kd} {f:Lit->Option Value} (h:CI W W.heap.size wd ks f) (hb:Xz W w) (hV:∀b∈V,W.heap.size<=b) (hm:SG W.heap.size V):BC w W.heap.size V wd ks f:=by
 intro s hs;rcases h s hs with h|⟨u,ra,rc,h1,h2,h3,h4⟩
 ·exact .inl h
 ·refine .inr ⟨u,ra,rc,h1,h2,h3,?_⟩
  rcases h4 with h4|⟨b,off,ha,zA,hc⟩
  ·exact .inl h4
  ·exact .inr ⟨b,off,ha,XH zA hb.size,fun hv=>by have:=hV b hv;omega,.inl ⟨zA,hm⟩,fun i s hs=>(hb.cell (p:=⟨b,off+i,none⟩) zA).trans (hc i s hs)⟩
structure Dr (w:World) (base d m:Nat) (O P L:Value) (wd now given births:Int) (ks:List Kd) (ps:List Pd) (ls:List Ld):Prop where
 box:Aa w d [XJ wd,.map (some m),XJ now,XJ given,XJ births,O,P,L]
 map:∃n f,n<=1000000+births.toNat/\Bb w 139 m n f/\BC w base (vB d m O P L) wd ks f
 ord:w.ownsRow base 139 8 O ks.length (AM (ks.map (·.sum)))
 pin:w.ownsRow base 134 2 P ps.length (Ab pC ps)
 lea:w.ownsRow base 137 3 L ls.length (Ab lC ls)
 bd:base<=d
 bm:base<=m
 ap:(vB d m O P L).Nodup
theorem BC.below {w w':World} {base:Nat} {V:List Nat} {wd:Int} {ks:List Kd} {f:Lit->Option Value} (h:BC w base V wd ks f) (hb:Xz w w'):BC w' base V wd ks f:=by
 intro s hs;rcases h s hs with h|⟨u,ra,rc,h1,h2,h3,h4⟩
 ·exact .inl h
 ·refine .inr ⟨u,ra,rc,h1,h2,h3,?_⟩
  rcases h4 with h4|⟨b,off,ha,zA,hv,ht,hc⟩
  ·exact .inl h4
  ·exact .inr ⟨b,off,ha,XH zA hb.size,hv,(by rw[hb.block b zA];exact ht),fun i s hs=>(hb.cell (p:=⟨b,off+i,none⟩) zA).trans (hc i s hs)⟩
theorem Ad {w w':World} {base:Nat} {e:TypeId} {size:Nat} {v:Value} {n:Nat} {xs:List Value} (h:w.ownsRow base e size v n xs) (hb:Xz w w'):w'.ownsRow base e size v n xs:=by
 refine⟨h.1,?_⟩;rcases h.2 with hn|⟨g,cap,zA,hv,zB,hg,rest⟩
 ·exact .inl hn
 ·exact .inr ⟨g,cap,zA,hv,zB,(hb.block g (Array.getElem?_eq_some_iff.1 hg).1).trans hg,rest⟩
theorem Dr.below {w w':World} {base d m:Nat} {O P L:Value} {wd now given births:Int} {ks:List Kd} {ps:List Pd} {ls:List Ld} (h:Dr w base d m O P L wd now given births ks ps ls) (hb:Xz w w'):Dr w' base d m O P L wd now given births ks ps ls:=by
 obtain⟨n,f,h1,h2,h3⟩:=h.map;exact⟨h.box.below hb,⟨n,f,h1,h2.keep hb h2.lt,h3.below hb⟩,Ad h.ord hb,Ad h.pin hb,Ad h.lea hb,h.bd,h.bm,h.ap⟩
theorem Ac {w:World} {base:Nat} {e:TypeId} {size:Nat} {v:Value} {n:Nat} {xs:List Value} (h:w.ownsRow base e size v n xs) {g:Nat} (hg:v.ownBlock=some g):base<=g/\g<w.heap.size:=by
 rcases h.2 with⟨rfl,_⟩|⟨g',cap,zB,rfl,hb,zA,_⟩
 ·cases hg
 ·cases hg
  exact⟨hb,(Array.getElem?_eq_some_iff.1 zA).1⟩
theorem Ij {w w':World} {base B:Nat} {e:TypeId} {size:Nat} {v:Value} {n:Nat} {xs:List Value} (h:w.ownsRow base e size v n xs) (hb:Below B w w') (hB:∀g,v.ownBlock=some g->g<B):w'.ownsRow base e size v n xs:=by
 refine⟨h.1,?_⟩;rcases h.2 with hn|⟨g,cap,zB,rfl,zA,hg,rest⟩
 ·exact .inl hn
 ·exact .inr ⟨g,cap,zB,rfl,zA,(hb.block g (hB g rfl)).trans hg,rest⟩
theorem Ua (w:World) (base:Nat) (v:Value) (ss:List ByteArray) (ho:w.ownsRow base 139 8 v ss.length (AM ss)) (s:ByteArray) (hn:ss.length<=1000000) (zA:base<=w.heap.size) (ty:TypeId):
 ∃g cap w',(Builtin.append_ #[129,129] ty #[v,.slice (some ⟨w.heap.size,0,none⟩) 1 1]).run prog (w.alloc (Ey s))=.ok (.slice (some ⟨g,0,none⟩) (ss.length+1) cap) w'/\w'.ownsRow base 139 8 (.slice (some ⟨g,0,none⟩) (ss.length+1) cap) (ss++[s]).length (AM (ss++[s]))/\w.grownBy w' v.ownBlock/\(v.ownBlock=some g∨g=w.heap.size+1):=by
 obtain⟨i0,hi,zC,zB,zE⟩:=info_parts Kt;have zF:=Ad ho ((Below.refl _ _).alloc (XB) (Ey s));have h1:=R8.one w s;have hc:∀j u,(AM [s])[j]?=some u->(w.alloc (Ey s)).cell? ((⟨w.heap.size,0,none⟩:Addr).add j)=some u:=by
  rcases h1 with⟨e,_⟩|⟨g,off,cap,e,_,hc⟩
  ·cases e
  ·cases e
   exact R8.cells hc
 obtain⟨v',w',hr,h2,h3,_,h5⟩:=run_append_own_at (P:=prog) (w.alloc (Ey s)) base 129 ty 139 i0 _ 8 8 underlying129 hi zC zB zE rfl (by decide) v ss.length (AM ss) zF ⟨w.heap.size,0,none⟩ 1 1 (AM [s]) (EM [s]) hc (Dt [s]) (by unfold maxLen;omega) (by omega) (by simp;omega);obtain⟨g,cap,rfl,_,_⟩:=BR h2 (fun e=>by subst e;rcases h2.2 with⟨_,hn⟩|⟨_,_,_,e,_⟩<;>first|omega|cases e)
 refine⟨g,cap,w',hr,?_,(World.grownBy_alloc w (Ey s) _).trans h3,?_⟩
 ·rw[Hy,List.length_append]
  exact h2
 ·rcases h5 with h5|h5
  ·exact .inl h5.symm
  ·right
   simpa [Value.ownBlock] using h5
theorem NA (wd now given births:Int) (a p l:Option Addr) (ac pc lc:Nat) (ks:List Kd) (ps:List Pd) (ls:List Ld) (w:World) (zG:Bt w w.heap.size a p l ks ps ls) (hk:ks.length<=600) (hp:ps.length<=100) (hl:ls.length<=200) (yR:∀k∈ks,(k.sum.size:Int)=wd) (h8:wd<=8):
 Calls prog 92 #[.agg #[XJ wd,XJ now,XJ given,XJ births,.slice a ks.length ac,.slice p ps.length pc,.slice l ls.length lc]] w fun e w'=>∃d m O P L,e=.returned (.pointer (some ⟨d,0,none⟩))/\Dr w' (w.heap.size+1) d m O P L wd now given births ks ps ls/\Xz w w':=by
 have hx:=AT.new w wd now given births (.slice a ks.length ac) (.slice p ps.length pc) (.slice l ls.length lc) 28;obtain⟨W0,zK⟩:∃W,W=w.alloc (.cells #[XJ wd,XJ now,XJ given,XJ births,.slice a ks.length ac,.slice p ps.length pc,.slice l ls.length lc] 28):=⟨_,rfl⟩;have zB:=(Aq zK).1;have yQ:=(Aq zK).2.1;rw[←zK] at hx;have zF:Hid _:=zG;have HX:Hid _:=hx;have yL:Hid _:=zK;have S0:=IU hx
 have yD:W0.drew.cell? (XL (w.heap.size) 0)=some (XJ wd)/\W0.drew.cell? (XL (w.heap.size) 1)=some (XJ now)/\W0.drew.cell? (XL (w.heap.size) 2)=some (XJ given)/\W0.drew.cell? (XL (w.heap.size) 3)=some (XJ births)/\W0.drew.cell? (XL (w.heap.size) 4)=some (.slice a ks.length ac)/\W0.drew.cell? (XL (w.heap.size) 5)=some (.slice p ps.length pc)/\W0.drew.cell? (XL (w.heap.size) 6)=some (.slice l ls.length lc):=S0
 have K0:Bx W0.drew W0.drew.heap.size a ks:=Bx.mono (Bx.below zG.k zB.drew) zB.size;have yM:ks.length<=1048576:=by omega
 have xB:ps.length<=1048576:=by omega
 have yP:ls.length<=1048576:=by omega
 clear zG hx zK;go_enter func92,ntmps92;go_upto_region 1 with fail;rw[←yL.o];clear yL
 go_region_held3 (fun w'=>w'.cell? (XL (w.heap.size) 0)=some (XJ wd)/\w'.cell? (XL (w.heap.size) 1)=some (XJ now)/\w'.cell? (XL (w.heap.size) 2)=some (XJ given)/\w'.cell? (XL (w.heap.size) 3)=some (XJ births)/\w'.cell? (XL (w.heap.size) 4)=some (.slice a ks.length ac)/\w'.cell? (XL (w.heap.size) 5)=some (.slice p ps.length pc)/\w'.cell? (XL (w.heap.size) 6)=some (.slice l ls.length lc))
  (first|exact S3|exact S2|exact S1|exact yD|exact IU (AT.below X3.o (XA)))
  (first
  |(go_at_call 134;refine(IT wd now given births a ac (.slice p ps.length pc) (.slice l ls.length lc) ks W0.drew K0 yM yR h8).mono ?_;rintro e w1 ⟨m,f,rfl,hm,hM,hH,zP⟩;have B1:Below W0.heap.size W0 w1:=(Below.refl W0.heap.size W0).drew.trans zP;have S1:=IU (AT.below HX.o B1))
  |(go_at_call 96;refine(Gd p pc ps w1 (AQ.mono (AQ.below zF.o.p (zB.trans (B1.mono zB.size))) (zB.trans (B1.mono zB.size)).size) xB).mono ?_;rintro e w2 ⟨p2,zC,rfl,zZ,zN⟩;have B2:Below W0.heap.size W0 w2:=B1.trans (zN.mono B1.size);have S2:=IU (AT.below HX.o B2))
  |(go_at_call 97;refine(Fa l lc ls w2 (AR.mono (AR.below zF.o.l (zB.trans (B2.mono zB.size))) (zB.trans (B2.mono zB.size)).size) yP).mono ?_;rintro e w3 ⟨l3,zE,rfl,zO,zI⟩;have B3:Below W0.heap.size W0 w3:=B2.trans (zI.mono B2.size);have X3:Hid _:=AT.below HX.o B3;have S3:=IU X3.o))
 obtain⟨W4,zJ⟩:∃W,W=w3.alloc (.cells #[XJ wd,.map (some m),XJ now,XJ given,XJ births,XN,.slice p2 ps.length zC,.slice l3 ls.length zE] 131):=⟨_,rfl⟩;have xJ:=(Aq zJ).2.1;have zH:=(Aq zJ).1;have Z4:=(Aq zJ).2.2;have yW:w.heap.size+1<=w1.heap.size:=by have:=B1.size;omega
 have zS:=zN.size;have yN:=zI.size;have xA:m<w1.heap.size:=hM.lt;have B4:Below w.heap.size w W4:=(zB.trans (B3.mono zB.size)).trans (zH.mono (by omega));have yT:Hid (Below W0.drew.heap.size W0.drew W4):=((zP.trans (zN.mono (by simp;omega))).trans (zI.mono (by simp;omega))).trans (zH.mono (by simp;omega));have yA:Hid _:=AT.below X3.o zH
 have yS:Hid (Bb W4 139 m ks.length f):=hM.keep (B:=w1.heap.size) ((zN.trans (zI.mono zS)).trans (zH.mono (by omega))) xA;have yX:Hid (W4.ownsRow w1.heap.size 134 2 (.slice p2 ps.length zC) ps.length (Ab pC ps)):=Ad (Ad zZ zI) zH;have yY:Hid (W4.ownsRow w2.heap.size 137 3 (.slice l3 ls.length zE) ls.length (Ab lC ls)):=Ad zO zH
 have zU:Hid (∀g,(Value.slice p2 ps.length zC).ownBlock=some g->w1.heap.size<=g/\g<w2.heap.size):=fun g hg=>Ac zZ hg;have zV:Hid (∀g,(Value.slice l3 ls.length zE).ownBlock=some g->w2.heap.size<=g/\g<w3.heap.size):=fun g hg=>Ac zO hg;have HH:Hid _:=hH;have yF:Hid _:=Z4;have xI:w.heap.size+1<=m/\m<=w.heap.size+3:=by have:=hm;simp at this;omega
 rw[←zJ];clear zJ S0 yD S1 S2 S3 X3 HX B1 B2 B3 zP zN zI hM zZ zO hH Z4 K0 hm;obtain⟨x0,x1,x2,x3,x4,x5,x6,x7⟩:=yA.o;go_wp2
 go_loopw [25] (fun i wr=>∃(k:Nat) (O:Value),k<=ks.length/\i=XJ k/\Hid (Aa wr w3.heap.size [XJ wd,.map (some m),XJ now,XJ given,XJ births,O,.slice p2 ps.length zC,.slice l3 ls.length zE])/\Hid (wr.ownsRow (w3.heap.size+1) 139 8 O ((ks.take k).map (·.sum)).length (AM ((ks.take k).map (·.sum))))/\Below w3.heap.size W4 wr) (fun i _=>ks.length -(intOf i).toNat)
 case atStart=>exact⟨0,_,Nat.zero_le _,rfl,yF,⟨rfl,.inl ⟨rfl,rfl⟩⟩,Below.refl _ _⟩
 case round=>
  clear x0 x1 x2 x3 x4 x5 x6 x7 yF;obtain⟨k,O,xE,rfl,HZ,HO,zA⟩:=hrel;obtain⟨x0,x1,x2,x3,x4,x5,x6,x7⟩:=AT.keep yA.o zA (by omega);have xC:w3.heap.size+1<=wr.heap.size:=by have:=zA.size;omega
  by_cases hlt:k<ks.length
  ·obtain⟨b,off,ha,hb,hc⟩:=(Bx.below zF.o.k (B4.trans (zA.mono (by omega)))).at hlt
   subst ha;have HG:Hid (ks[k]?=some ks[k]):=XD hlt;obtain⟨c0,c1,c2,ra,rc,c3,_⟩:=hc k _ HG.o;have xG:b<wr.heap.size:=by omega
   have HN:Hid ((ks.take (k+1)).map (·.sum)=(ks.take k).map (·.sum)++[ks[k].sum]):=by
    show _=_;rw[XE hlt,List.map_append];rfl
   have xD:((ks.take k).map (·.sum)).length<=600:=by simp;omega
   clear hc;generalize ks[k]=x at *
   generalize (ks.take k).map (·.sum)=Os at *
   obtain⟨W5,zM⟩:∃W,W=wr.alloc (.cells #[.string x.sum,XJ x.born,.string x.text,.slice ra x.refs.length rc] 114):=⟨_,rfl⟩;have xH:=(Aq zM).2.1;have b5:=(Aq zM).1;have Z5:=(Aq zM).2.2;have HOr:Hid _:=HO.o;have yK:Hid _:=Ad HO.o b5;have zY:Hid _:=Aa.below HZ.o b5;have yH:Hid (Below w3.heap.size W4 W5):=zA.trans (b5.mono (by omega))
   have P5:W5.drew.cell? (XL (w3.heap.size) 5)=some O/\W5.drew.cell? (XL (wr.heap.size) 0)=some (.string x.sum):=⟨(zY.o 5 _ rfl).1,(Z5 0 _ rfl).1⟩;have D5:Below W5.heap.size W5 W5.drew:=(Below.refl _ _).drew;have yJ:Hid _:=zM;clear zM Z5 HO HZ;go_upto_region 5 with fail;rw[←yJ.o];clear yJ x0 x1 x2 x3 x4 x5 x6 x7 c0 c1 c2 c3;obtain⟨zR,zT⟩:=P5
   have zX:∀g,O.ownBlock=some g->w3.heap.size+1<=g/\g<wr.heap.size:=fun g hg=>Ac HOr.o hg;have xF:wr.heap.size≠w3.heap.size:=by omega
   go_region_law (first
    |(go_simp;go_at_call 135;refine(IG x.sum W5.drew).mono ?_;rintro e w6 ⟨rfl,yG⟩;have b6:Below W5.heap.size W5 w6:=D5.trans yG;have yO:w6.cell? (XL (w3.heap.size) 5)=some O:=(b6.cell (p:=⟨w3.heap.size,5,none⟩) (by simp;omega)).trans zR;have yE:w6.cell? (XL (wr.heap.size) 0)=some (.string x.sum):=(b6.cell (p:=⟨wr.heap.size,0,none⟩) (by simp;omega)).trans zT;have b7:Below W5.heap.size W5 (w6.alloc (Ey x.sum)):=b6.alloc b6.size _;have yI:(w6.alloc (Ey x.sum)).cell? (XL (w3.heap.size) 5)=some O:=(b7.cell (p:=⟨w3.heap.size,5,none⟩) (by simp;omega)).trans zR;have yB:(w6.alloc (Ey x.sum)).cell? (XL (wr.heap.size) 0)=some (.string x.sum):=(b7.cell (p:=⟨wr.heap.size,0,none⟩) (by simp;omega)).trans zT;have z6:=b6.size;obtain⟨g8,c8,w8,hr8,ho8,hg8,ha8⟩:=Ua w6 (w3.heap.size+1) O Os (Ad yK.o b6) x.sum (by omega) (by omega) 129;have Z6:=Aa.below zY.o b6;unfold Ey at hr8 yI yB;go_wp2_with fail)
    |(refine BU (by rfl) (.tmp 33) (.tmp 37) 129 129 (by rfl) (by rfl) (by rfl) hr8 ?_;have yZ:w8.cell? (XL (wr.heap.size) 0)=some (.string x.sum):=hg8.cell yE (fun e=>by have:=(zX _ e.symm).2;simp at this);have Z8:Aa w8 w3.heap.size _:=(Aa.same Z6 (hg8.block w3.heap.size (by omega) (fun e=>by have:=(zX _ e.symm).1;omega)));have yV:=(Z8 5 _ rfl).1;have F8:=(Z8 5 _ rfl).2))
   all_goals
    have yC:Below w3.heap.size W4 w8:=(yH.o.trans (b6.mono (by omega))).grown hg8 (by omega) (fun g hg=>by have:=(zX g hg).1;omega);have zW:Hid _:=And.intro Z8 (And.intro yC ho8);clear Z8 yC ho8 hg8 hr8 Z6 b6 b7 yG yK zY yH zR zT yO yE yI yB yV yZ F8 ha8 D5 b5;go_wp2;refine⟨⟨k+1,.slice (some ⟨g8,0,none⟩) (Os.length+1) c8,by omega,by go_num,?_,?_,?_⟩,by simp[intOf];omega⟩
    ·exact Aa.set zW.o.1 5 _
    ·rw[HN.o]
     exact ownsRow_setCell_below zW.o.2.2 (by simp<;>omega) _
    ·exact zW.o.2.1.setCell (by simp) _
  ·obtain rfl:k=ks.length:=by omega
   rw[XF (XB)] at HO;go_wp2;have yU:(vB w3.heap.size m O (.slice p2 ps.length zC) (.slice l3 ls.length zE)).Nodup:=by
    have hO:∀g,O.ownBlock=some g->w3.heap.size+1<=g:=fun g hg=>(Ac HO.o hg).1;have hP:∀g,(Value.slice p2 ps.length zC).ownBlock=some g->w1.heap.size<=g/\g<w2.heap.size:=zU.o;have hL:∀g,(Value.slice l3 ls.length zE).ownBlock=some g->w2.heap.size<=g/\g<w3.heap.size:=zV.o;unfold vB;generalize (Value.slice p2 ps.length zC).ownBlock=bp at *
    generalize (Value.slice l3 ls.length zE).ownBlock=bl at *
    generalize O.ownBlock=bo at *
    cases bo<;>cases bp<;>cases bl<;>simp_all<;>omega
   have hV:∀q∈vB w3.heap.size m O (.slice p2 ps.length zC) (.slice l3 ls.length zE),w.heap.size+1<=q:=by
    intro q hq;unfold vB at hq;simp only[List.mem_cons,List.mem_append,Option.mem_toList] at hq;rcases hq with rfl|rfl|hq|hq|hq
    ·omega
    ·omega
    ·have:=(Ac HO.o hq).1;omega
    ·have:=(zU.o _ hq).1;omega
    ·have:=(zV.o _ hq).1;omega
   go_ret;refine⟨_,rfl,⟨m,O,_,_,⟨HZ.o,⟨ks.length,f,by omega,yS.o.keep zA (by omega),?_⟩,?_,?_,?_,by omega,by omega,yU⟩⟩,B4.trans (zA.mono (by omega))⟩
   ·have hq:W0.drew.heap.size=w.heap.size+1:=yQ
    rw[←hq];exact BC.of HH.o (yT.o.trans (zA.mono (by simp;omega))) (fun q hq=>by have:=hV q hq;simp;omega) ⟨m,rfl,by rw[hq];omega⟩
   ·have:=HO.o
    rw[List.length_map] at this;exact this.mono (by omega)
   ·refine World.ownsRow.mono ?_ (show w.heap.size+1<=w1.heap.size by omega)
    exact Ij yX.o zA (fun g hg=>by have:=(zU.o g hg).2;omega)
   ·refine World.ownsRow.mono ?_ (show w.heap.size+1<=w2.heap.size by omega)
    exact Ij yY.o zA (fun g hg=>by have:=(zV.o g hg).2;omega)
def kC (x:Kd×Value):List Value:=[.string x.1.sum,XJ x.1.born,.string x.1.text,x.2]
theorem DG (x:Kd×Value):(kC x).length=4:=rfl
structure AY (w:World) (base:Nat) (T P L:Value) (rs:List Value) (ks:List Kd) (ps:List Pd) (ls:List Ld):Prop where
 len:rs.length=ks.length
 things:w.ownsRow base 114 4 T ks.length (Ab kC (ks.zip rs))
 refs:∀(i:Nat) (k:Kd) (r:Value),ks[i]?=some k->rs[i]?=some r->w.ownsRow base 9 1 r k.refs.length (k.refs.map Value.string)
 pins:w.ownsRow base 134 2 P ps.length (Ab pC ps)
 leases:w.ownsRow base 137 3 L ls.length (Ab lC ls)
 nd:((T::P::L::rs).filterMap Value.ownBlock).Nodup
theorem Dd {B:Nat} {w w':World} (h:Below B w.drew w'):Below B w w':=⟨h.os,h.tape,h.output,h.size,h.block⟩
theorem Ay {w:World} {base:Nat} {e:TypeId} {size:Nat} {v:Value} {n:Nat} {xs:List Value} (h:w.ownsRow base e size v n xs):∃a c,v=.slice a n c:=by
 rcases h.2 with⟨rfl,rfl⟩|⟨g,cap,zA,rfl,_⟩
 ·exact⟨_,_,rfl⟩
 ·exact⟨_,_,rfl⟩
theorem Bh {w:World} {base:Nat} {e:TypeId} {size:Nat} {v:Value} {n:Nat} {xs:List Value} (h:w.ownsRow base e size v n xs) {b:Nat} (zA:∀g,v.ownBlock=some g->g≠b) (j:Nat) (u:Value):(w.setCell (XL b j) u).ownsRow base e size v n xs:=
 World.ownsRow.kept h (Av w b j u) (.inr (fun e=>zA b e rfl))
theorem d8 {w:World} {d:Nat} {a0 a1 a2 a3 a4 a5 a6 a7:Value} (h:Aa w d [a0,a1,a2,a3,a4,a5,a6,a7]):w.cell? (XL d 0)=some a0/\w.cell? (XL d 2)=some a2/\w.cell? (XL d 3)=some a3/\w.cell? (XL d 4)=some a4/\w.cell? (XL d 6)=some a6/\w.cell? (XL d 7)=some a7:=
 ⟨(h 0 _ rfl).1,(h 2 _ rfl).1,(h 3 _ rfl).1,(h 4 _ rfl).1,(h 6 _ rfl).1,(h 7 _ rfl).1⟩
def Bn (T P L:Value) (rs:List Value):List Nat:=T.ownBlock.toList++(P.ownBlock.toList++(L.ownBlock.toList++rs.filterMap Value.ownBlock))
theorem Fc (T P L:Value) (rs:List Value):(T::P::L::rs).filterMap Value.ownBlock=Bn T P L rs:=by
 unfold Bn;cases hT:T.ownBlock<;>cases hP:P.ownBlock<;>cases hL:L.ownBlock<;>simp[hT,hP,hL]
theorem Uv {sb n:Nat} {T T' P L r:Option Nat} {R:List Nat} (h:(sb::(T.toList++(P.toList++(L.toList++R)))).Nodup) (zB:∀b∈sb::(T.toList++(P.toList++(L.toList++R))),b<n)
 (hr:∀g,r=some g->n<=g) (hT:T'=T∨∃t,T'=some t/\n<=t/\∀g,r=some g->g≠t):(sb::(T'.toList++(P.toList++(L.toList++(R++r.toList))))).Nodup:=by
 rcases hT with rfl|⟨t,rfl,ht,zA⟩
 ·cases T'<;>cases P<;>cases L<;>cases r<;>simp_all [List.nodup_append]<;>grind
 ·cases T<;>cases P<;>cases L<;>cases r<;>simp_all [List.nodup_append]<;>grind
theorem KZ {sb:Nat} {T P L:Option Nat} {R:List Nat} (h:(sb::(T.toList++(P.toList++(L.toList++R)))).Nodup):
 (∀g,T=some g->g≠sb)/\(∀g,P=some g->g≠sb/\T≠some g)/\(∀g,L=some g->g≠sb/\T≠some g)/\(∀g∈R,g≠sb/\T≠some g):=by
 cases T<;>cases P<;>cases L<;>simp_all<;>grind
theorem Ah {w w':World} {base:Nat} {e:TypeId} {size:Nat} {v:Value} {n:Nat} {xs:List Value} (h:w.ownsRow base e size v n xs) (hs:∀g,v.ownBlock=some g->w'.heap[g]?=w.heap[g]?):w'.ownsRow base e size v n xs:=by
 refine⟨h.1,?_⟩;rcases h.2 with hn|⟨g,cap,zA,rfl,zB,hg,rest⟩
 ·exact .inl hn
 ·exact .inr ⟨g,cap,zA,rfl,zB,(hs g rfl).trans hg,rest⟩
theorem Jj {ks:List Kd} (zB:(ks.map (·.sum)).Nodup) {u v:Kd} (hu:u∈ks) (hv:v∈ks) (h:u.sum=v.sum):u=v:=by
 induction ks with
 |nil=>cases hu
 |cons x xs ih=>
  simp only[List.map_cons,List.nodup_cons,List.mem_map,not_exists,not_and] at zB;rcases List.mem_cons.1 hu with zA|zA<;>rcases List.mem_cons.1 hv with hv'|hv'
  ·rw[zA,hv']
  ·exact absurd (zA▸h.symm) (zB.1 v hv')
  ·exact absurd (hv'▸h) (zB.1 u zA)
  ·exact ih zB.2 zA hv'
def z7:List Value:=[XK,XK,XK,XK,XN,XN,XN]
theorem Pn {w:World} {b:Nat} (h:Aa w b z7):(w.cell? (XL b 0)=some XK/\w.frozen? ⟨b,0,none⟩=false)/\(w.cell? (XL b 1)=some XK/\w.frozen? ⟨b,1,none⟩=false)/\(w.cell? (XL b 2)=some XK/\w.frozen? ⟨b,2,none⟩=false)/\(w.cell? (XL b 3)=some XK/\w.frozen? ⟨b,3,none⟩=false)/\(w.cell? (XL b 4)=some XN/\w.frozen? ⟨b,4,none⟩=false)/\(w.cell? (XL b 5)=some XN/\w.frozen? ⟨b,5,none⟩=false)/\(w.cell? (XL b 6)=some XN/\w.frozen? ⟨b,6,none⟩=false):=
 ⟨h 0 _ rfl,h 1 _ rfl,h 2 _ rfl,h 3 _ rfl,h 4 _ rfl,h 5 _ rfl,h 6 _ rfl⟩
theorem Vu {w:World} {b:Nat} (h:Aa w b z7) (a0 a1 a2 a3 a4 a5 a6:Value):Aa (((((((w.setCell (XL b 0) a0).setCell (XL b 1) a1).setCell (XL b 2) a2).setCell (XL b 3) a3).setCell (XL b 4) a4).setCell (XL b 5) a5).setCell (XL b 6) a6) b [a0,a1,a2,a3,a4,a5,a6]:=
 (((((((h.set 0 a0).set 1 a1).set 2 a2).set 3 a3).set 4 a4).set 5 a5).set 6 a6)
theorem Ge {w:World} {base:Nat} {e:TypeId} {size:Nat} {v:Value} {n:Nat} {xs:List Value} (h:w.ownsRow base e size v n xs) {b:Nat} (zA:∀g,v.ownBlock=some g->g≠b) (a0 a1 a2 a3 a4 a5 a6:Value):(((((((w.setCell (XL b 0) a0).setCell (XL b 1) a1).setCell (XL b 2) a2).setCell (XL b 3) a3).setCell (XL b 4) a4).setCell (XL b 5) a5).setCell (XL b 6) a6).ownsRow base e size v n xs:=
 Bh (Bh (Bh (Bh (Bh (Bh (Bh h zA 0 _) zA 1 _) zA 2 _) zA 3 _) zA 4 _) zA 5 _) zA 6 _
theorem EN {B:Nat} {a w:World} (h:Below B a w) {b:Nat} (hb:B<=b) (a0 a1 a2 a3 a4 a5 a6:Value):Below B a (((((((w.setCell (XL b 0) a0).setCell (XL b 1) a1).setCell (XL b 2) a2).setCell (XL b 3) a3).setCell (XL b 4) a4).setCell (XL b 5) a5).setCell (XL b 6) a6):=
 ((((((h.setCell hb a0).setCell hb a1).setCell hb a2).setCell hb a3).setCell hb a4).setCell hb a5).setCell hb a6
def QH (b:Nat) (P L:Value):Prop:=(∀g,P.ownBlock=some g->g≠b)/\(∀g,L.ownBlock=some g->g≠b)/\(∀g,P.ownBlock=some g->L.ownBlock=some g->False)
theorem Ik (base d m:Nat) (O P L:Value) (wd now given births:Int) (ks:List Kd) (ps:List Pd) (ls:List Ld) (w:World) (hd:Dr w base d m O P L wd now given births ks ps ls) (xJ:(ks.map (·.sum)).Nodup) (xW:∀k∈ks,(k.sum.size:Int)=wd) (hk:ks.length<=600) (hp:ps.length<=100) (hl:ls.length<=200) (yL:∀k∈ks,k.refs.length<=30):
 Calls prog 47 #[.pointer (some ⟨d,0,none⟩)] w fun e w'=>∃T P' L' rs,e=.returned (.agg #[XJ wd,XJ now,XJ given,XJ births,T,P',L'])/\AY w' w.heap.size T P' L' rs ks ps ls/\Xz w w':=by
 obtain⟨pa,yB,rfl⟩:=Ay hd.pin;obtain⟨la,yE,rfl⟩:=Ay hd.lea;obtain⟨oa,xZ,rfl⟩:=Ay hd.ord;have HD:Hid _:=hd;have vV:=hd.box.lt;obtain⟨W,hW⟩:∃W,W=w.alloc (.cells #[XK,XK,XK,XK,XN,XN,XN] 28):=⟨_,rfl⟩;have yQ:=(Aq hW).1;have yR:=(Aq hW).2.1;have ZW:Aa W w.heap.size z7:=(Aq hW).2.2;have yF:Hid _:=hd.below yQ
 have zK:Hid (∀X,Xz W X->Calls prog 96 #[.slice pa ps.length yB] X fun e w'=>∃a' c',e=.returned (.slice a' ps.length c')/\w'.ownsRow X.heap.size 134 2 (.slice a' ps.length c') ps.length (Ab pC ps)/\Xz X w'):=
  fun X hX=>Gd pa yB ps X (AQ.own (Ad yF.o.pin hX)) (by omega)
 have zG:Hid (∀X,Xz W X->Calls prog 97 #[.slice la ls.length yE] X fun e w'=>∃a' c',e=.returned (.slice a' ls.length c')/\w'.ownsRow X.heap.size 137 3 (.slice a' ls.length c') ls.length (Ab lC ls)/\Xz X w'):=
  fun X hX=>Fa la yE ls X (AR.own (Ad yF.o.lea hX)) (by omega)
 have HS:Hid (∀X,Xz W X->X.cell? (XL d 0)=some (XJ wd)/\X.cell? (XL d 2)=some (XJ now)/\X.cell? (XL d 3)=some (XJ given)/\X.cell? (XL d 4)=some (XJ births)/\X.cell? (XL d 6)=some (.slice pa ps.length yB)/\X.cell? (XL d 7)=some (.slice la ls.length yE)):=
  fun X hX=>d8 (yF.o.box.below hX)
 have D0:Below W.heap.size W W.drew:=(Below.refl _ _).drew;have D1:∀o,Xz W (W.alloc o).drew:=fun o=>(XA).drew;have HW:Hid _:=hW;have yY:Hid _:=ZW;have zP:Hid _:=yR;clear hd hW ZW yR;go_enter func47,ntmps47;go_upto_region 1 with fail;rw[←HW.o];clear HW
 go_cut [3] (fun v wx=>∃(sb:Nat) (a1 a2:Option Addr) (c1 c2:Nat),v=.pointer (some ⟨sb,0,none⟩)/\Hid (Aa wx sb [XJ wd,XJ now,XJ given,XJ births,XN,.slice a1 ps.length c1,.slice a2 ls.length c2]/\wx.ownsRow W.heap.size 134 2 (.slice a1 ps.length c1) ps.length (Ab pC ps)/\wx.ownsRow W.heap.size 137 3 (.slice a2 ls.length c2) ls.length (Ab lC ls)/\QH sb (.slice a1 ps.length c1) (.slice a2 ls.length c2)/\W.heap.size<=sb/\Xz W wx))
 case first=>
  go_region_held3 (fun w'=>w'.cell? (XL d 0)=some (XJ wd)/\w'.cell? (XL d 2)=some (XJ now)/\w'.cell? (XL d 3)=some (XJ given)/\w'.cell? (XL d 4)=some (XJ births)/\w'.cell? (XL d 6)=some (.slice pa ps.length yB)/\w'.cell? (XL d 7)=some (.slice la ls.length yE))
   (first
     |with_reducible exact HS.o _ D0
     |with_reducible exact HS.o _ (D1 _)
     |with_reducible exact HS.o _ B1
     |with_reducible exact HS.o _ B2
     |with_reducible exact HS.o _ (B1.alloc B1.size _)
     |with_reducible exact HS.o _ (B2.alloc B2.size _)
     |with_reducible exact HS.o _ (EN B2 zF _ _ _ _ _ _ _))
   (first
     |(go_at_call 96;guard_target=~Calls prog 96 _ (World.drew (World.alloc W _)) _;refine(zK.o (W.alloc (.cells #[XK,XK,XK,XK,XN,XN,XN] 28)).drew (D1 _)).mono ?_;rintro e w1 ⟨a1,c1,rfl,zH,zJ⟩;have B1:Below W.heap.size W w1:=(D1 _).trans (zJ.mono (by simp));have nA:Aa w1 W.heap.size z7:=(Aa.below (w:=W.alloc (.cells #[XK,XK,XK,XK,XN,XN,XN] 28)) (Aa.new W _ _) (Dd zJ)))
     |(go_at_call 96;guard_target=~Calls prog 96 _ (World.drew W) _;refine(zK.o W.drew D0).mono ?_;rintro e w1 ⟨a1,c1,rfl,zH,zJ⟩;have B1:Below W.heap.size W w1:=D0.trans zJ)
     |(go_at_call 97;have tag:=nA;refine(zG.o w1 B1).mono ?_;rintro e w2 ⟨a2,c2,rfl,zI,zC⟩;have B2:Below W.heap.size W w2:=B1.trans (zC.mono B1.size);have n2:Aa w2 W.heap.size z7:=(Aa.below nA zC);have zF:W.heap.size<=W.heap.size:=XB;obtain⟨⟨y0,q0⟩,⟨y1,q1⟩,⟨y2,q2⟩,⟨y3,q3⟩,⟨y4,q4⟩,⟨y5,q5⟩,y6,q6⟩:=Pn n2)
     |(go_at_call 97;guard_target=~Calls prog 97 _ (World.alloc w1 _) _;refine(zG.o (w1.alloc (.cells #[XK,XK,XK,XK,XN,XN,XN] 28)) (B1.alloc B1.size _)).mono ?_;rintro e w2 ⟨a2,c2,rfl,zI,zC⟩;have B2:Below W.heap.size W w2:=(B1.alloc B1.size _).trans (zC.mono (by have:=B1.size;simp;omega));have nB:Aa w2 w1.heap.size z7:=(Aa.below (Aa.new w1 _ _) zC);have zF:W.heap.size<=w1.heap.size:=B1.size;obtain⟨⟨y0,q0⟩,⟨y1,q1⟩,⟨y2,q2⟩,⟨y3,q3⟩,⟨y4,q4⟩,⟨y5,q5⟩,y6,q6⟩:=Pn nB)
     |(go_at_call 97;refine(zG.o w1 B1).mono ?_;rintro e w2 ⟨a2,c2,rfl,zI,zC⟩;have nC:=zH;have B2:Below W.heap.size W w2:=B1.trans (zC.mono B1.size)))
  all_goals (go_wp2_with fail;go_meet)
  all_goals first
   |(have tag:=nA
     have zz:=zP.o;have l1:∀g,(Value.slice a1 ps.length c1).ownBlock=some g->W.heap.size+1<=g/\g<w1.heap.size:=fun g hg=>by have:=Ac zH hg;simp at this;omega
     have l2:∀g,(Value.slice a2 ls.length c2).ownBlock=some g->w1.heap.size<=g:=fun g hg=>(Ac zI hg).1;have z1:W.heap.size+1<=w1.heap.size:=by have:=zJ.size;simp at this;omega
     exact⟨W.heap.size,a1,a2,c1,c2,rfl,Vu n2 _ _ _ _ _ _ _,Ge (Ad (zH.mono (by simp)) zC) (fun g hg=>by have:=l1 g hg;omega) _ _ _ _ _ _ _,Ge (zI.mono (by omega)) (fun g hg=>by have:=l2 g hg;omega) _ _ _ _ _ _ _,⟨fun g hg=>by have:=l1 g hg;omega,fun g hg=>by have:=l2 g hg;omega,fun g hg hg'=>by have:=l1 g hg;have:=l2 g hg';omega⟩,XB,EN B2 (XB) _ _ _ _ _ _ _⟩)
   |(have tag:=nB
     have l1:∀g,(Value.slice a1 ps.length c1).ownBlock=some g->W.heap.size<=g/\g<w1.heap.size:=fun g hg=>by have:=Ac zH hg;simp at this;omega
     have l2:∀g,(Value.slice a2 ls.length c2).ownBlock=some g->w1.heap.size+1<=g:=fun g hg=>by have:=(Ac zI hg).1;simp at this;omega
     exact⟨w1.heap.size,a1,a2,c1,c2,rfl,Vu nB _ _ _ _ _ _ _,Ge (Ad (Ad (zH.mono (by simp)) (XA)) zC) (fun g hg=>by have:=l1 g hg;omega) _ _ _ _ _ _ _,Ge (zI.mono (by simp;omega)) (fun g hg=>by have:=l2 g hg;omega) _ _ _ _ _ _ _,⟨fun g hg=>by have:=l1 g hg;omega,fun g hg=>by have:=l2 g hg;omega,fun g hg hg'=>by have:=l1 g hg;have:=l2 g hg';omega⟩,zF,EN B2 zF _ _ _ _ _ _ _⟩)
   |(have tag:=nC
     have l1:∀g,(Value.slice a1 ps.length c1).ownBlock=some g->W.heap.size<=g/\g<w1.heap.size:=fun g hg=>by have:=Ac zH hg;simp at this;omega
     have l2:∀g,(Value.slice a2 ls.length c2).ownBlock=some g->w1.heap.size<=g/\g<w2.heap.size:=fun g hg=>Ac zI hg;have z2:=zC.size;exact⟨w2.heap.size,a1,a2,c1,c2,rfl,Aa.new w2 _ _,Ad (Ad (zH.mono (by simp)) zC) (XA),Ad (zI.mono B1.size) (XA),⟨fun g hg=>by have:=l1 g hg;omega,fun g hg=>by have:=l2 g hg;omega,fun g hg hg'=>by have:=l1 g hg;have:=l2 g hg';omega⟩,B2.size,B2.alloc B2.size _⟩)
 case rest=>
  revert wc;intro wN hcut;obtain⟨sb,a1,a2,c1,c2,rfl,HC⟩:=hcut;have xN:Hid (Xz w wN):=yQ.trans (HC.o.2.2.2.2.2.mono yQ.size);have dN:=(yF.o.box.below HC.o.2.2.2.2.2);obtain⟨e5,_⟩:=dN 5 _ rfl;have zN:=HC.o.2.2.2.2.2.size;have vT:W.heap.size<=sb:=HC.o.2.2.2.2.1;have vH:Hid (Aa wN w.heap.size z7):=Aa.below (v:=XK) (l:=z7.tail) yY.o HC.o.2.2.2.2.2;clear dN zK zG HS D0 D1 yY;go_wp2
  go_loopw [40] (fun i wr=>∃(k:Nat) (T:Value) (rs:List Value),k<=ks.length/\i=XJ k/\Hid (Aa wr sb [XJ wd,XJ now,XJ given,XJ births,T,.slice a1 ps.length c1,.slice a2 ls.length c2]/\Aa wr w.heap.size z7/\wr.ownsRow W.heap.size 114 4 T k (Ab kC ((ks.take k).zip rs))/\rs.length=k/\(∀(i:Nat) (x:Kd) (r:Value),(ks.take k)[i]?=some x->rs[i]?=some r->wr.ownsRow W.heap.size 9 1 r x.refs.length (x.refs.map Value.string))/\wr.ownsRow W.heap.size 134 2 (.slice a1 ps.length c1) ps.length (Ab pC ps)/\wr.ownsRow W.heap.size 137 3 (.slice a2 ls.length c2) ls.length (Ab lC ls)/\(sb::Bn T (.slice a1 ps.length c1) (.slice a2 ls.length c2) rs).Nodup)/\Xz w wr) (fun i _=>ks.length -(intOf i).toNat)
  case atStart=>
   refine⟨0,XN,[],Nat.zero_le _,rfl,⟨HC.o.1,vH.o,⟨rfl,.inl ⟨rfl,rfl⟩⟩,rfl,fun i x r hx=>by simp at hx,HC.o.2.1,HC.o.2.2.1,?_⟩,xN.o⟩;have h3:=HC.o.2.2.2.1;unfold QH at h3;unfold Bn;generalize (Value.slice a1 ps.length c1).ownBlock=x1 at *
   generalize (Value.slice a2 ls.length c2).ownBlock=x2 at *
   cases x1<;>cases x2<;>simp_all [Value.ownBlock]<;>grind
  case round=>
   obtain⟨k,T,rs,vS,rfl,HI,zB⟩:=hrel;by_cases hlt:k<ks.length
   ·obtain⟨n,f,hn,hM,hH⟩:=HD.o.map
    have yI:=zB.size;have ho:wr.ownsRow base 139 8 (.slice oa ks.length xZ) ks.length (AM (ks.map (·.sum))):=Ij HD.o.ord zB (fun g hg=>(Ac HD.o.ord hg).2);obtain⟨og,oc,xR,_,vQ⟩:=BR ho (fun e=>by injection e with _ h2 _;omega);cases xR;have HG:Hid (ks[k]?=some ks[k]):=XD hlt;have zE:ks[k]∈ks:=List.getElem_mem hlt;have vO:=xW _ zE;have xU:=yL _ zE
    have xA:(ks.map (·.sum))[k]?=some ks[k].sum:=by simp[hlt]
    have zA:∀j,j<8->wr.cell? (XL og (k *8+j))=some (.int .u8 (kB ks[k].sum j)):=fun j hj=>(ho.cellAt _ (by omega)).trans (FN xA hj);obtain⟨ra,rc,yV,vP⟩:∃ra rc,f (keyL ks[k].sum)=some (DK ks[k] ra rc)/\Hid (Ae w w.heap.size ra ks[k].refs):=by
     rcases hH _ vO with⟨_,vJ⟩|⟨u,ra,rc,hu,xY,vE,xE⟩
     ·exact absurd ⟨_,zE,rfl⟩ vJ
     ·obtain rfl:=Jj xJ hu zE xY
      exact⟨ra,rc,vE,xE.row⟩
    have yJ:∀X,Xz wr X->(Instr.lookup 126 (.map (some m)) (Cc ks[k].sum) false).run prog X=.ok (DK ks[k] ra rc) X:=fun X hX=>by
     have:=(hM.keep (zB.trans (hX.mono yI)) hM.lt).look keyed underlying126 (Ji _) (Ee ks[k].sum);rw[yV] at this;exact this
    have dr:Aa wr d _:=Aa.below HD.o.box zB;have yX:=zA 0 (by omega);have xO:=zA 1 (by omega);have xG:=zA 2 (by omega);have xX:=zA 3 (by omega);have xL:=zA 4 (by omega);have xD:=zA 5 (by omega);have xM:=zA 6 (by omega);have xQ:=zA 7 (by omega);rw[Nat.add_zero] at yX;have HX:Hid (ks.take (k+1)=ks.take k++[ks[k]]):=XE hlt;unfold Cc CF DK at yJ;clear ho zA xA hH yV zE hM;generalize ks[k]=x at *
    obtain⟨W1,zX⟩:∃W1,W1=wr.alloc (.cells #[.int .u8 (kB x.sum 0),.int .u8 (kB x.sum 1),.int .u8 (kB x.sum 2),.int .u8 (kB x.sum 3),.int .u8 (kB x.sum 4),.int .u8 (kB x.sum 5),.int .u8 (kB x.sum 6),.int .u8 (kB x.sum 7)] 139):=⟨_,rfl⟩;have b1:=(Aq zX).1;have z1:=(Aq zX).2.1;have K1:=(Aq zX).2.2
    have yM:Hid (∀X,Xz W1 X->X.cell? (XL d 1)=some (.map (some m))/\(X.cell? (XL (wr.heap.size) 0)=some (.int .u8 (kB x.sum 0))/\X.cell? (XL (wr.heap.size) 1)=some (.int .u8 (kB x.sum 1))/\X.cell? (XL (wr.heap.size) 2)=some (.int .u8 (kB x.sum 2))/\X.cell? (XL (wr.heap.size) 3)=some (.int .u8 (kB x.sum 3))/\X.cell? (XL (wr.heap.size) 4)=some (.int .u8 (kB x.sum 4))/\X.cell? (XL (wr.heap.size) 5)=some (.int .u8 (kB x.sum 5))/\X.cell? (XL (wr.heap.size) 6)=some (.int .u8 (kB x.sum 6))/\X.cell? (XL (wr.heap.size) 7)=some (.int .u8 (kB x.sum 7)))/\(Instr.lookup 126 (.map (some m)) (.agg #[.int .u8 (kB x.sum 0),.int .u8 (kB x.sum 1),.int .u8 (kB x.sum 2),.int .u8 (kB x.sum 3),.int .u8 (kB x.sum 4),.int .u8 (kB x.sum 5),.int .u8 (kB x.sum 6),.int .u8 (kB x.sum 7)]) false).run prog X=.ok (.agg #[.string x.sum,XJ x.born,.string x.text,.slice ra x.refs.length rc]) X):=
     fun X hX=>⟨((dr.below (b1.trans (hX.mono b1.size))) 1 _ rfl).1,Ww (hX.block _ (by omega)) K1,yJ X (b1.trans (hX.mono b1.size))⟩
    have D0:Below W1.heap.size W1 W1.drew:=(Below.refl _ _).drew;have D1:∀o,Xz W1 (W1.alloc o).drew:=fun o=>(XA).drew;have yT:Hid _:=zX;have zY:Hid _:=z1;have vD:Hid _:=b1;clear zX z1 yJ K1 b1 dr;go_upto_region 5 with fail;rw[←yT.o];clear yT yX xO xG xX xL xD xM xQ
    go_region_held3 (fun X=>X.cell? (XL d 1)=some (.map (some m))/\(X.cell? (XL (wr.heap.size) 0)=some (.int .u8 (kB x.sum 0))/\X.cell? (XL (wr.heap.size) 1)=some (.int .u8 (kB x.sum 1))/\X.cell? (XL (wr.heap.size) 2)=some (.int .u8 (kB x.sum 2))/\X.cell? (XL (wr.heap.size) 3)=some (.int .u8 (kB x.sum 3))/\X.cell? (XL (wr.heap.size) 4)=some (.int .u8 (kB x.sum 4))/\X.cell? (XL (wr.heap.size) 5)=some (.int .u8 (kB x.sum 5))/\X.cell? (XL (wr.heap.size) 6)=some (.int .u8 (kB x.sum 6))/\X.cell? (XL (wr.heap.size) 7)=some (.int .u8 (kB x.sum 7)))/\(Instr.lookup 126 (.map (some m)) (.agg #[.int .u8 (kB x.sum 0),.int .u8 (kB x.sum 1),.int .u8 (kB x.sum 2),.int .u8 (kB x.sum 3),.int .u8 (kB x.sum 4),.int .u8 (kB x.sum 5),.int .u8 (kB x.sum 6),.int .u8 (kB x.sum 7)]) false).run prog X=.ok (.agg #[.string x.sum,XJ x.born,.string x.text,.slice ra x.refs.length rc]) X)
     (first|with_reducible exact yM.o _ D0|with_reducible exact yM.o _ (D1 _))
     (fail)
    all_goals
     clear yM D0 D1;obtain⟨W2,zZ⟩:∃W2,W2=(W1.alloc (.cells #[.string x.sum,XJ x.born,.string x.text,.slice ra x.refs.length rc] 114)).drew:=⟨_,rfl⟩;have b2:Below W1.heap.size W1 W2:=by rw[zZ];exact(XA).drew
     have z2:W2.heap.size=W1.heap.size+1:=by rw[zZ];simp
     have K2:Aa W2 W1.heap.size [.string x.sum,XJ x.born,.string x.text,.slice ra x.refs.length rc]:=by rw[zZ];exact Aa.new W1 _ _
     have z1:=zY.o;have yH:Below wr.heap.size wr W2:=vD.o.trans (b2.mono (by omega));have R2:Ae W2 W2.heap.size ra x.refs:=Ae.mono (Ae.below vP.o (zB.trans (yH.mono yI))) (by omega);rw[←zZ];obtain⟨k3,_⟩:=K2 3 _ rfl;have yK:Hid _:=z2;have xB:x.refs.length<=1048576:=by omega
     clear zZ z1 z2;go_wp2_with fail;refine(DP ra rc x.refs W2 R2 xB).mono ?_;rintro e w3 ⟨a3,c3,rfl,yG,zV⟩;clear k3;have z1:=zY.o;have z2:=yK.o;have yA:Below wr.heap.size wr w3:=yH.trans (zV.mono (by omega));have z3:=zV.size;obtain⟨i1,i2,i3,i4,i5,i6,i7,i8⟩:=HI.o;have zW:=zP.o;have S3:=Aa.below i1 yA;obtain⟨ta,tc,rfl⟩:=Ay i3;obtain⟨s4,f4⟩:=S3 4 _ rfl;have vA:sb<wr.heap.size:=i1.lt
     have yP:¬sb=W1.heap.size:=by omega
     have xF:¬W1.heap.size=sb:=by omega
     obtain⟨k0,k1,k2⟩:=Aa.c3 (Aa.below K2 zV) 0 1 2;obtain⟨k3,g3⟩:=Aa.below K2 zV 3 _ rfl;have xI:Hid _:=Ad i3 yA;have zT:∀g,(Value.slice ta k tc).ownBlock=some g->W.heap.size<=g/\g<wr.heap.size:=fun g hg=>Ac i3 hg;have yN:∀g,(Value.slice a3 x.refs.length c3).ownBlock=some g->W2.heap.size<=g/\g<w3.heap.size:=fun g hg=>Ac yG hg;have xS:Hid _:=yG;have zS:Hid _:=yA;have vC:Hid _:=S3
     have xH:W.heap.size<=w3.heap.size:=by omega
     obtain⟨i0,hi,xV,vF,xP⟩:=info_parts Gc;have yS:Hid _:=z3;clear K2 b2 yH R2 i1 i2 i3 i4 i5 i6 i7 i8 zV yG yA S3 z1 z2 z3 zW;go_wp2_with (first
      |(at_builtin;refine wpList_append_own_at _ rfl _ _ 24 rfl W.heap.size 114 i0 _ 4 64 underlying24 hi xV vF xP rfl (by decide) _ k (Ab kC ((ks.take k).zip rs)) rfl ?d0 ⟨w3.heap.size,0,none⟩ 1 1 (kC (x,.slice a3 x.refs.length c3)) rfl rfl ?d2 ?d3 ?d4 ?d5 ?d6 ?_)
      |go_in)
     case d0=>exact Ad (Bh xI.o (fun g hg=>by have:=zT g hg;have:=zY.o;omega) 3 _) (XA)
     case d2=>
      intro j u hu;rw[Go.WideShapes.add_plain,Nat.zero_add];have:=(Aa.new (w3.setCell (XL (W1.heap.size) 3) (.slice a3 x.refs.length c3)) (kC (x,.slice a3 x.refs.length c3)) 114) j u hu;simpa [kC] using this.1
     case d3=>
      intro u hu;simp[kC] at hu;rcases hu with rfl|rfl|rfl|rfl<;>rfl
     case d4=>unfold maxLen;omega
     case d5=>omega
     case d6=>simp;omega
     intro v4 w4 zM zR vL zU;obtain⟨g4,c4,rfl,xT,vG⟩:=BR zM (fun e=>by subst e;rcases zM.2 with⟨_,hn⟩|⟨_,_,_,e,_⟩<;>first|omega|cases e);obtain⟨i1,i2,i3,i4,i5,i6,i7,i8⟩:=HI.o;have nf:=KZ i8;have z1:=zY.o;have z2:=yK.o;have z3:=yS.o;have zW:=zP.o;have hX:∀b,b<w3.heap.size->b≠W1.heap.size->(Value.slice ta k tc).ownBlock≠some b->w4.heap[b]?=w3.heap[b]?:=fun b hb zJ zC=>by
      rw[zR.block b (by simp;omega) (fun e=>zC e.symm),Below.heap_alloc _ _ _ (by simp;omega),Below.heap_setCell _ _ _ _ (by simpa using zJ)]
     have S4:=Aa.same vC.o (hX sb (by omega) yP (fun e=>nf.1 _ e rfl));obtain⟨_,vR⟩:=S4 4 _ rfl;obtain⟨vU,_⟩:=S4 4 _ rfl;have vI:g4≠sb:=by
      rcases zU with ha|ha
      ·exact nf.1 g4 ha.symm
      ·simp[Value.ownBlock] at ha;omega
     have HF:Hid _:=And.intro S4 (And.intro hX (And.intro zM (And.intro zU zR)));clear S4 hX zM zU zR i1 i2 i3 i4 i5 i6 i7 i8 nf z1 z2 z3 zW s4 f4 k0 k1 k2 k3 g3 vL;go_wp2;obtain⟨S4,hX,zM,zU,zR⟩:=HF.o;obtain⟨i1,i2,i3,i4,i5,i6,i7,i8⟩:=HI.o;have nf:=KZ i8;have z1:=zY.o;have z2:=yK.o;have z3:=yS.o;have zW:=zP.o
     have hY:∀b,b<w3.heap.size->b≠W1.heap.size->b≠sb->(Value.slice ta k tc).ownBlock≠some b->(w4.setCell (XL sb 4) (.slice (some ⟨g4,0,none⟩) (k+1) c4)).heap[b]?=w3.heap[b]?:=fun b h1 h2 h3 h4=>(Below.heap_setCell _ _ _ _ (by simpa using h3)).trans (hX b h1 h2 h4)
     have yC:∀b,b<wr.heap.size->b≠sb->(Value.slice ta k tc).ownBlock≠some b->(w4.setCell (XL sb 4) (.slice (some ⟨g4,0,none⟩) (k+1) c4)).heap[b]?=wr.heap[b]?:=fun b h1 h3 h4=>(hY b (by omega) (by omega) h3 h4).trans (zS.o.block b h1);have yZ:∀r∈rs,∀g,r.ownBlock=some g->g<wr.heap.size:=by
      intro r hr g hg;obtain⟨i,hi⟩:=List.getElem?_of_mem hr;have xK:i<k:=by have:=(XC hi).1;omega
      exact(Ac (i5 i _ r (by rw[List.getElem?_take_of_lt xK];exact XD (by omega)) hi) hg).2
     refine⟨⟨k+1,.slice (some ⟨g4,0,none⟩) (k+1) c4,rs++[.slice a3 x.refs.length c3],by omega,by go_num,⟨Aa.set S4 4 _,?_,?_,?_,?_,?_,?_,?_⟩,?_⟩,by simp[intOf];omega⟩
     ·exact Aa.same i2 (yC w.heap.size (by omega) (by omega) (fun e=>by have:=(zT _ e).1;omega))
     ·rw[HX.o,List.zip_append (by rw[i4,List.length_take];omega),Bf]
      exact Bh zM (fun g hg=>by simp[Value.ownBlock] at hg;omega) 4 _
     ·simp[i4]
     ·intro i y r hy hr
      rw[HX.o] at hy;have yO:(ks.take k).length=k:=by rw[List.length_take];omega
      rcases Nat.lt_or_ge i k with h|h
      ·rw[List.getElem?_append_left (by omega)] at hy hr
       refine Ah (i5 i y r hy hr) (fun g hg=> ?_);have:=nf.2.2.2 g (List.mem_filterMap.2 ⟨r,XG hr,hg⟩);exact yC g (yZ r (XG hr) g hg) this.1 this.2
      ·have vM:i=k:=by have:=(XC hr).1;simp at this;omega
       subst vM;rw[List.getElem?_append_right (by omega),yO,Nat.sub_self] at hy;rw[List.getElem?_append_right (by omega),i4,Nat.sub_self] at hr;simp at hy hr;subst hy;subst hr;refine Ah (World.ownsRow.mono xS.o (by omega)) (fun g hg=> ?_);have:=yN g hg;exact hY g this.2 (by omega) (by omega) (fun e=>by have:=(zT g e).2;omega)
     ·exact Ah i6 (fun g hg=>yC g (Ac i6 hg).2 (nf.2.1 g hg).1 (nf.2.1 g hg).2)
     ·exact Ah i7 (fun g hg=>yC g (Ac i7 hg).2 (nf.2.2.1 g hg).1 (nf.2.2.1 g hg).2)
     ·unfold Bn
      rw[List.filterMap_append];have vK:List.filterMap Value.ownBlock [.slice a3 x.refs.length c3]=(Value.slice a3 x.refs.length c3).ownBlock.toList:=by cases h:(Value.slice a3 x.refs.length c3).ownBlock<;>simp[h]
      rw[vK];refine Uv (n:=wr.heap.size) i8 ?_ (fun g hg=>by have:=(yN g hg).1;omega) ?_
      ·intro b hb
       simp only[List.mem_cons,List.mem_append,Option.mem_toList,List.mem_filterMap] at hb;rcases hb with rfl|hb|hb|hb|⟨r,hr,hb⟩
       ·exact vA
       ·exact(zT _ hb).2
       ·exact(Ac i6 hb).2
       ·exact(Ac i7 hb).2
       ·exact yZ r hr b hb
      ·rcases zU with ha|ha
       ·exact .inl ha
       ·refine .inr ⟨w3.heap.size+1,by simpa using ha,by omega,fun g hg=>by have:=(yN g hg).2;omega⟩
     ·have hq:Below w.heap.size w w3:=zB.trans (zS.o.mono yI)
      exact(((hq.setCell (by simp;omega) _).alloc (by simp;omega) _).grown zR (by simp;omega) (fun g hg=>by have:=(zT g hg).1;omega)).setCell (by simp;omega) _
   ·obtain rfl:k=ks.length:=by omega
    obtain⟨i1,i2,i3,i4,i5,i6,i7,i8⟩:=HI.o;have zW:=zP.o;obtain⟨⟨y0,q0⟩,⟨y1,q1⟩,⟨y2,q2⟩,⟨y3,q3⟩,⟨y4,q4⟩,⟨y5,q5⟩,y6,q6⟩:=Pn i2;obtain⟨ta,tc,rfl⟩:=Ay i3;obtain⟨x0,x1,x2,x3,x4,x5,x6⟩:=Aa.c7 i1 0 1 2 3 4 5 6;have xC:¬sb=w.heap.size:=by omega
    have yU:¬w.heap.size=sb:=by omega
    have zO:Hid _:=And.intro i2 (And.intro i3 (And.intro i4 (And.intro i5 (And.intro i6 (And.intro i7 i8)))));clear i1 i2 i3 i4 i5 i6 i7 i8 zW;go_wp2;have zW:=zP.o
    have yD:∀{e:TypeId} {size:Nat} {v:Value} {n:Nat} {xs:List Value},wr.ownsRow W.heap.size e size v n xs->(((((((wr.setCell (XL (w.heap.size) 0) (XJ wd)).setCell (XL (w.heap.size) 1) (XJ now)).setCell (XL (w.heap.size) 2) (XJ given)).setCell (XL (w.heap.size) 3) (XJ births)).setCell (XL (w.heap.size) 4) (.slice ta ks.length tc)).setCell (XL (w.heap.size) 5) (.slice a1 ps.length c1)).setCell (XL (w.heap.size) 6) (.slice a2 ls.length c2)).ownsRow w.heap.size e size v n xs:=fun h=>World.ownsRow.mono (Ge h (fun g hg=>by have:=(Ac h hg).1;omega) _ _ _ _ _ _ _) (by omega)
    have yW:ks.take ks.length=ks:=XF (XB);refine bodyPost_ret (v:=.agg #[XJ wd,XJ now,XJ given,XJ births,.slice ta ks.length tc,.slice a1 ps.length c1,.slice a2 ls.length c2]) (by simp[results,results47,go_sem,y0,y1,y2,y3,y4,y5,y6]) rfl ⟨_,_,_,rs,rfl,⟨zO.o.2.2.1,?_,?_,yD zO.o.2.2.2.2.1,yD zO.o.2.2.2.2.2.1,?_⟩,EN zB (XB) _ _ _ _ _ _ _⟩
    ·have:=zO.o.2.1
     rw[yW] at this;exact yD this
    ·intro i y r hy hr
     exact yD (zO.o.2.2.2.1 i y r (by rw[yW];exact hy) hr)
    ·rw[Fc]
     exact(List.nodup_cons.1 zO.o.2.2.2.2.2.2).2
end Go.Proofs.YtpekbmegopfhfaaGreatDoor
