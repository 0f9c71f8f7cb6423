import Derived.Test.YtpekbmegopfhfaaGreatDoorK27
import Derived.Test.YtpekbmegopfhfaaGreatDoorK16
set_option maxRecDepth 100000
set_option maxHeartbeats 16000000
namespace Go.Proofs.YtpekbmegopfhfaaGreatDoor
open Go.ChangeShapes Go.WideShapes Go.ChangeAt Go.RowKit _root_.Go.Proofs.Tryz
theorem Oh (a b:Option Addr) (n m c d k:Nat) (w:World) (h1:Ae w w.heap.size a (marks k n)) (h2:Ae w w.heap.size b (marks (k+n) m)) (hk:1<=k) (zH:k+n+m<=100000000):
 Calls prog 63 #[.agg #[.slice a n c,.slice b m d],XJ k] w fun e w'=>e=.returned (XJ (k+n+m))/\Xz w w':=by
 have hb:Below w.heap.size w (w.alloc (.cells #[.slice a n c,.slice b m d] 40)):=XA;have zI:¬((k:Int)+n<0):=by omega
 have zF:¬((k:Int)+n+m<0):=by omega
 go_enter func63,ntmps63;go_wp2_with fail;refine(FA a n c k w.heap.size _ (h1.below hb) (by simp) hk (by omega)).mono ?_;rintro e w1 ⟨rfl,zC⟩;have zB:=hb.trans (zC.mono (by simp));have zE:w1.cell? (XL (w.heap.size) 1)=some (.slice b m d):=by rw[zC.cell (p:=⟨w.heap.size,1,none⟩) (by simp)];simp
 have zA:=FA b m d (k+n) w.heap.size w1 (h2.below zB) zB.size (by omega) (by omega);rw[show((k+n:Nat):Int)=(k:Int)+n from by omega] at zA;go_wp2_with fail;refine zA.mono ?_;rintro e w2 ⟨rfl,zG⟩;go_wp2;go_ret;exact⟨rfl,zB.trans (zG.mono zB.size)⟩
def Xp (w:World) (b:Nat) (u v:Value):Prop:=w.cell? (XL b 0)=some u/\w.cell? (XL b 1)=some v/\b<w.heap.size
theorem Ib (a b:Option Addr) (c d:Nat) (ss tt:List ByteArray) (w:World) (hr:Ae w w.heap.size a ss) (hq:Ae w w.heap.size b tt) (hl:ss.length<=1048576) (zO:tt.length<=1048576):
 Calls prog 60 #[.agg #[.slice a ss.length c,.slice b tt.length d]] w fun e w'=>∃x cx y cy,e=.returned (.agg #[.slice x ss.length cx,.slice y tt.length cy])/\
  w'.ownsRow w.heap.size 9 1 (.slice x ss.length cx) ss.length (ss.map Value.string)/\w'.ownsRow w.heap.size 9 1 (.slice y tt.length cy) tt.length (tt.map Value.string)/\(∀g,(Value.slice x ss.length cx).ownBlock=some g->(Value.slice y tt.length cy).ownBlock≠some g)/\Xz w w':=by
 obtain⟨W,hW⟩:∃W,W=(w.alloc (.cells #[.slice a ss.length c,.slice b tt.length d] 40)).alloc (.cells #[XN,XN] 40):=⟨_,rfl⟩;have zB:=(AP hW).1;have x0:=(AP hW).2.2.1;have x1:Aa W (w.heap.size+1) [XN,XN]:=by
  have h1:=Aa.new (w.alloc (.cells #[.slice a ss.length c,.slice b tt.length d] 40)) [XN,XN] 40;rw[World.size_alloc] at h1;rw[hW];exact h1
 have zP:=(AP hW).2.1;have HW:Hid _:=hW;have zK:Hid (Aa W _ _):=(AP hW).2.2.1;have zG:Hid (Aa W (w.heap.size+1) [XN,XN]):=x1;have HQ:Hid (Ae w w.heap.size a ss):=hr;have HM:Hid (Ae w w.heap.size b tt):=hq;obtain⟨a0,a1⟩:=Aa.c2 x0 0 1;clear hW x0 x1 hr hq;go_enter func60,ntmps60;go_upto_region 1 with fail;rw[←HW.o];clear HW;go_region_with (first
  |(go_at_call 98;refine(DP a c ss W.drew (Ae.below' (w:=w) HQ.o zB.drew) hl).mono ?_;rintro e w1 ⟨x,cx,rfl,zF,zJ⟩;have zA:Below W.heap.size W w1:=(Below.refl W.heap.size W).drew.trans zJ;obtain⟨b1,_⟩:=Aa.below zK.o zA 1 _ rfl)
  |(go_at_call 98;refine(DP b d tt w1 (Ae.below' (w:=w) HM.o (zB.trans (zA.mono zB.size))) zO).mono ?_;rintro e w2 ⟨y,cy,rfl,zH,zE⟩;have zC:Below W.heap.size W w2:=zA.trans (zE.mono zA.size);obtain⟨d0,e0⟩:=Aa.below zG.o zC 0 _ rfl;obtain⟨d1,e1⟩:=Aa.below zG.o zC 1 _ rfl))
 all_goals
  have zN:w2.ownsRow (w.heap.size+2) 9 1 (.slice x ss.length cx) ss.length (ss.map Value.string):=(Mj zF zE).mono (by simp;omega);have zI:w2.ownsRow (w.heap.size+2) 9 1 (.slice y tt.length cy) tt.length (tt.map Value.string):=zH.mono (by have:=zA.size;omega)
  have zM:∀g,(Value.slice x ss.length cx).ownBlock=some g->(Value.slice y tt.length cy).ownBlock≠some g:=fun g h1 h2=>by have q1:=(Ac zF h1).2;have q2:=(Ac zH h2).1;omega
  have HO:Hid _:=And.intro zN (And.intro zI (And.intro zM (zB.trans (zC.mono zB.size))));clear zN zI zF zH zJ zE zA zC zK zG HQ HM a0 a1 zB zM;go_wp2;refine bodyPost_ret (v:=.agg #[.slice x ss.length cx,.slice y tt.length cy]) (by simp[results,results60,go_sem,d0,d1]) rfl ⟨x,cx,y,cy,rfl,?_,?_,HO.o.2.2.1,?_⟩
  ·refine World.ownsRow.mono ?_ (show w.heap.size<=w.heap.size+2 by omega)
   iterate 2 (refine ownsRow_setCell_below ?_ (by simp<;>omega) _)
   exact HO.o.1
  ·refine World.ownsRow.mono ?_ (show w.heap.size<=w.heap.size+2 by omega)
   iterate 2 (refine ownsRow_setCell_below ?_ (by simp<;>omega) _)
   exact HO.o.2.1
  ·iterate 2 (refine Below.setCell ?_ (by simp) _)
   exact HO.o.2.2.2
def Ar (w:World) (base:Nat) (v:Value) (ss:List ByteArray):Prop:=
 (v=XN/\ss=[])∨∃g off cap,v=.slice (some ⟨g,off,none⟩) ss.length cap/\base<=g/\g<w.heap.size/\ss.length<=cap/\cap<=maxLen/\
   (∀j,j<cap->(w.cell? (XL g (off+j))).isSome=true/\w.frozen? ⟨g,off+j,none⟩=false)/\
   ∀i s,ss[i]?=some s->w.cell? (XL g (off+i))=some (.string s)
theorem Ar.nil (w:World) (base:Nat):Ar w base XN []:=.inl ⟨rfl,rfl⟩
theorem Ar.own {w:World} {base:Nat} {v:Value} {ss:List ByteArray} (h:w.ownsRow base 9 1 v ss.length (ss.map Value.string)):Ar w base v ss:=by
 rcases h.2 with⟨rfl,hn⟩|⟨g,cap,zB,rfl,hb,hg,hc,hm,hs,ht⟩
 ·exact .inl ⟨rfl,List.eq_nil_of_length_eq_zero hn⟩
 ·have hl:=(Array.getElem?_eq_some_iff.1 hg).1
  have zA:∀j,w.cell? (XL g (0+j))=zB[j]?:=fun j=>by
   rw[Nat.zero_add];simp[World.cell?,hg]
  refine .inr ⟨g,0,cap,rfl,hb,hl,hc,hm,fun j hj=>⟨?_,?_⟩,fun i s hs=> ?_⟩
  ·rw[zA,Array.getElem?_eq_getElem (by omega)]
   rfl
  ·simp[World.frozen?,hg]
  ·have hi:=(XC hs).1
   rw[zA];have h1:(zB.toList.take (ss.length *1))[i]?=some (.string s):=by rw[ht];simp[hs]
   rw[List.getElem?_take_of_lt (by omega)] at h1;simpa using h1
theorem Ar.row {w:World} {base:Nat} {v:Value} {ss:List ByteArray} (h:Ar w base v ss):∃a cap,v=.slice a ss.length cap/\Ae w w.heap.size a ss:=by
 rcases h with⟨rfl,rfl⟩|⟨g,off,cap,rfl,h1,h2,_,_,_,hc⟩
 ·exact⟨none,0,rfl,.inl rfl⟩
 ·exact⟨_,cap,rfl,.inr ⟨g,off,rfl,h2,hc⟩⟩
theorem Ar.stays {w w':World} {base:Nat} {v:Value} {ss:List ByteArray} (h:Ar w base v ss) (hz:w.heap.size<=w'.heap.size) (hb:∀g,AD v=some g->w'.heap[g]?=w.heap[g]?):Ar w' base v ss:=by
 rcases h with h|⟨g,off,cap,rfl,h1,hg,h2,h3,h4,hc⟩
 ·exact .inl h
 ·exact .inr ⟨g,off,cap,rfl,h1,by omega,h2,h3,fun j hj=>⟨by rw[World.cell?_of_block (hb g rfl)];exact(h4 j hj).1,by rw[World.frozen?_of_block (hb g rfl)];exact(h4 j hj).2⟩,fun i s hs=>(World.cell?_of_block (hb g rfl)).trans (hc i s hs)⟩
theorem Ar.blk {w:World} {base:Nat} {v:Value} {ss:List ByteArray} (h:Ar w base v ss) {g:Nat} (hg:AD v=some g):base<=g/\g<w.heap.size:=by
 rcases h with⟨rfl,_⟩|⟨g',off,cap,rfl,h1,h2,_⟩
 ·cases hg
 ·cases hg;exact⟨h1,h2⟩
theorem Ar.below {w w':World} {base:Nat} {v:Value} {ss:List ByteArray} (h:Ar w base v ss) (hb:Xz w w'):Ar w' base v ss:=
 h.stays hb.size (fun g e=>hb.block g (h.blk e).2)
theorem Ar.turn {w w':World} {V:List Nat} {base:Nat} {v:Value} {ss:List ByteArray} (h:Ar w base v ss) (hb:Tn V w w') (hV:∀g,AD v=some g->g∉V):Ar w' base v ss:=
 h.stays hb.size (fun g e=>hb.block g (h.blk e).2 (hV g e))
theorem Ar.mono {w:World} {base zA:Nat} {v:Value} {ss:List ByteArray} (h:Ar w base v ss) (hb:zA<=base):Ar w zA v ss:=by
 rcases h with h|⟨g,off,cap,rfl,h1,rest⟩
 ·exact .inl h
 ·exact .inr ⟨g,off,cap,rfl,by omega,rest⟩
theorem LZ (ph top at_ ro:Int) (a b:Option Addr) (n m c d k:Nat) (w:World) (h1:Ae w w.heap.size a (marks k n)) (h2:Ae w w.heap.size b (marks (k+n) m)) (hk:1<=k) (zH:k+n+m<=100000000):
 Calls prog 64 #[.agg #[XJ ph,.slice a n c,.slice b m d,XJ top,XJ at_,XJ ro],XJ k] w fun e w'=>e=.returned (XJ (k+n+m))/\Xz w w':=by
 have hb:Below w.heap.size w (w.alloc (.cells #[XJ ph,.slice a n c,.slice b m d,XJ top,XJ at_,XJ ro] 42)):=XA;have zI:¬((k:Int)+n<0):=by omega
 have zF:¬((k:Int)+n+m<0):=by omega
 go_enter func64,ntmps64;go_wp2_with fail;refine(FA a n c k w.heap.size _ (h1.below hb) (by simp) hk (by omega)).mono ?_;rintro e w1 ⟨rfl,zC⟩;have zB:=hb.trans (zC.mono (by simp));have zE:w1.cell? (XL (w.heap.size) 2)=some (.slice b m d):=by rw[zC.cell (p:=⟨w.heap.size,2,none⟩) (by simp)];simp
 have zA:=FA b m d (k+n) w.heap.size w1 (h2.below zB) zB.size (by omega) (by omega);rw[show((k+n:Nat):Int)=(k:Int)+n from by omega] at zA;go_wp2_with fail;refine zA.mono ?_;rintro e w2 ⟨rfl,zG⟩;go_wp2;go_ret;exact⟨rfl,zB.trans (zG.mono zB.size)⟩
theorem Ar.set {w:World} {base g off n cap:Nat} {ss:List ByteArray} (h:Ar w base (.slice (some ⟨g,off,none⟩) n cap) ss) {j:Nat} (hj:j<ss.length) (t:ByteArray):Ar (w.setCell (XL g (off+j)) (.string t)) base (.slice (some ⟨g,off,none⟩) n cap) (ss.set j t):=by
 rcases h with⟨e,_⟩|⟨g',zB,zA,e,h1,h2,h3,h4,h5,h6⟩
 ·cases e
 ·cases e
  refine .inr ⟨g,off,cap,by rw[List.length_set],h1,by simpa using h2,by rw[List.length_set];exact h3,h4,fun i hi=>⟨?_,?_⟩,fun i s hs=> ?_⟩
  ·exact(IH.setCell w g (off+j) (.string t) g (off+i) (h5 i hi).1).1
  ·exact(IH.setCell w g (off+j) (.string t) g (off+i) (h5 i hi).1).2 (h5 i hi).2
  ·by_cases hij:i=j
   ·subst hij
    rw[List.getElem?_set_self hj] at hs;cases hs;exact World.cell?_setCell_same' _ _ _ (h5 i (by omega)).1
   ·rw[List.getElem?_set_ne (fun e=>hij e.symm)] at hs
    exact(World.cell?_setCell_other w _ _ _ (by simp<;>omega)).trans (h6 i s hs)
theorem Qd (k i:Nat) (xs:List ByteArray) (h:i<xs.length):(marks k i++xs.drop i).set i (BH (k+i))=marks k (i+1)++xs.drop (i+1):=by
 have hl:=BA k i;rw[List.set_append_right _ _ (by omega),hl,Nat.sub_self,List.drop_eq_getElem_cons h,List.set_cons_zero];simp[marks,List.range_succ]
theorem GC (base k:Nat) (V:Value) (ss:List ByteArray) (w:World) (h:Ar w base V ss) (hk:1<=k) (zJ:k+ss.length<=100000000):
 Calls prog 15 #[V,XJ k] w fun e w'=>e=.returned (XJ (k+ss.length:Nat))/\Ar w' base V (marks k ss.length)/\w.grownBy w' (AD V):=by
 obtain⟨a,cap,rfl,_⟩:=h.row;have HO:Hid (Ar w base (.slice a ss.length cap) ss):=h;obtain⟨n,hn⟩:∃n,n=ss.length:=⟨_,rfl⟩;rw[←hn] at HO zJ ⊢;have Hn:Hid _:=hn;clear h hn;go_enter func15,ntmps15;go_wp2
 go_loopw [1,5] (fun v i wr=>∃(j:Nat),j<=n/\i=XJ j/\v=XJ (k+j)/\Hid (Ar wr base (.slice a n cap) (marks k j++ss.drop j)/\w.grownBy wr (AD (.slice a n cap)))) (fun _ i _=>n -(intOf i).toNat)
 case atStart=>exact⟨0,Nat.zero_le _,rfl,by simp,by simpa [marks] using HO.o,Eb _ _⟩
 case round=>
  obtain⟨j,hj,rfl,rfl,HI⟩:=hrel;by_cases hlt:j<n
  ·have zE:(marks k j++ss.drop j).length=n:=by rw[List.length_append,BA,List.length_drop];have:=Hn.o;omega
   obtain⟨g,off,rfl,zB,zH⟩:∃g off,a=some ⟨g,off,none⟩/\(∀X,Xz wr X->(X.cell? (XL g (off+j))).isSome=true)/\(∀X,Xz wr X->X.frozen? ⟨g,off+j,none⟩=false):=by
    rcases HI.o.1 with⟨e,e2⟩|⟨g,off,zI,e,h1,h2,h3,h4,h5,h6⟩
    ·rw[e2] at zE;simp at zE;omega
    ·cases e
     refine⟨g,off,rfl,fun X hX=> ?_,fun X hX=> ?_⟩
     ·rw[hX.cell (p:=⟨g,off+j,none⟩) h2];exact(h5 j (by omega)).1
     ·rw[hX.frozen (p:=⟨g,off+j,none⟩) h2];exact(h5 j (by omega)).2
   have zA:=EK (k+j) wr (by omega) (by omega);rw[show((k+j:Nat):Int)=(k:Int)+j from by omega] at zA;have zK:(j:Int)<n:=by omega
   have HS:Hid _:=And.intro zB zH;clear zB zH;go_wp2_with fail;refine zA.mono ?_;rintro e w2 ⟨rfl,zC⟩;obtain⟨v0,zM⟩:=Option.isSome_iff_exists.1 (HS.o.1 w2 zC);have zN:=HS.o.2 w2 zC;have zF:=(HI.o.1.below zC).set (j:=j) (by rw[zE];exact hlt) (BH (k+j));rw[Qd k j ss (by have:=Hn.o;omega)] at zF;have zG:=Ap HI.o.2 (Ap (Ax _ zC) (QV w2 g (off+j) (.string (BH (k+j)))));have HH:Hid _:=And.intro zF zG
   clear zF zG HI zA HS;go_wp2;exact⟨⟨j+1,by omega,by go_num,by go_num,HH.o.1,HH.o.2⟩,by simp[intOf];omega⟩
  ·obtain rfl:j=n:=by omega
   have hE:=HI.o.1;rw[List.drop_of_length_le (by have:=Hn.o;omega),List.append_nil] at hE;have HE:Hid _:=hE;clear hE;go_wp2;go_ret;exact⟨by go_num,HE.o,HI.o.2⟩
theorem Qe (ph top at_ ro:Int) (base k:Nat) (Q M:Value) (qs ms:List ByteArray) (w:World) (h1:Ar w base Q qs) (h2:Ar w base M ms) (zG:∀g,AD Q=some g->AD M≠some g) (hk:1<=k) (zP:k+qs.length+ms.length<=100000000):
 Calls prog 62 #[.agg #[XJ ph,Q,M,XJ top,XJ at_,XJ ro],XJ k] w fun e w'=>e=.returned (XJ (k+qs.length+ms.length:Nat))/\Ar w' base Q (marks k qs.length)/\Ar w' base M (marks (k+qs.length) ms.length)/\Tn ((AD Q).toList++(AD M).toList) w w':=by
 obtain⟨qa,qc,rfl,_⟩:=h1.row;obtain⟨ma,mc,rfl,_⟩:=h2.row;have hb:Below w.heap.size w (w.alloc (.cells #[XJ ph,.slice qa qs.length qc,.slice ma ms.length mc,XJ top,XJ at_,XJ ro] 42)):=XA;have hz:Aa (w.alloc (.cells #[XJ ph,.slice qa qs.length qc,.slice ma ms.length mc,XJ top,XJ at_,XJ ro] 42)) w.heap.size [XJ ph,.slice qa qs.length qc,.slice ma ms.length mc,XJ top,XJ at_,XJ ro]:=Aa.new w _ _
 obtain⟨W,hW⟩:∃W,W=w.alloc (.cells #[XJ ph,.slice qa qs.length qc,.slice ma ms.length mc,XJ top,XJ at_,XJ ro] 42):=⟨_,rfl⟩;rw[←hW] at hb hz;have HZ:Hid (Aa W _ _):=(Aq hW).2.2;obtain⟨z1,_⟩:=hz 1 _ rfl;have HR:Hid (Ar W base (.slice qa qs.length qc) qs/\Ar W base (.slice ma ms.length mc) ms):=⟨h1.below hb,h2.below hb⟩
 have zN:Hid ((∀g,AD (.slice qa qs.length qc)=some g->g<w.heap.size)/\(∀g,AD (.slice ma ms.length mc)=some g->g<w.heap.size)):=⟨fun g hg=>(h1.blk hg).2,fun g hg=>(h2.blk hg).2⟩;have HN:Hid (∀g,AD (.slice qa qs.length qc)=some g->AD (.slice ma ms.length mc)≠some g):=zG;have HW:Hid _:=hW;have HB:Hid (Xz w W):=hb;clear h1 h2 zG hW hz hb;go_enter func62,ntmps62;go_upto_region 1 with fail;rw[←HW.o]
 clear HW;go_wp2_with fail;refine(GC base k _ qs W HR.o.1 hk (by omega)).mono ?_;rintro e w1 ⟨rfl,zF,zA⟩;have zK:w.heap.size<W.heap.size:=Aa.lt HZ.o;have zH:Aa w1 w.heap.size [XJ ph,.slice qa qs.length qc,.slice ma ms.length mc,XJ top,XJ at_,XJ ro]:=Aa.same HZ.o (zA.block _ zK (fun e=>by have:=zN.o.1 _ e.symm;omega))
 have zE:Ar w1 base (.slice ma ms.length mc) ms:=HR.o.2.stays zA.size (fun g hg=>zA.block g (HR.o.2.blk hg).2 (fun e=>HN.o g e.symm hg));obtain⟨y2,_⟩:=zH 2 _ rfl;have zO:Hid (Ar w1 base (.slice ma ms.length mc) ms):=zE;have zC:Hid (Ar w1 base (.slice qa qs.length qc) (marks k qs.length)/\W.grownBy w1 (AD (.slice qa qs.length qc))):=⟨zF,zA⟩;clear z1 zH zE zF zA;go_wp2_with fail
 refine(GC base (k+qs.length) _ ms w1 zO.o (by omega) (by omega)).mono ?_;rintro e w2 ⟨rfl,zI,zB⟩;have zJ:Hid (Ar w2 base (.slice qa qs.length qc) (marks k qs.length)):=zC.o.1.stays zB.size (fun g hg=>zB.block g (zC.o.1.blk hg).2 (fun e=>HN.o g hg e.symm))
 have HT:Hid (Tn ((AD (.slice qa qs.length qc)).toList++(AD (.slice ma ms.length mc)).toList) w w2):=((Tn.of HB.o).trans ((Cn zC.o.2).mono (by simp;exact fun b h=> .inl h))).trans ((Cn zB).mono (by simp;exact fun b h=> .inr h));have zM:Hid (Ar w2 base (.slice ma ms.length mc) (marks (k+qs.length) ms.length)):=zI;clear y2 zI zB;go_wp2;go_ret;exact⟨rfl,zJ.o,zM.o,HT.o⟩
theorem AY.turn {w w':World} {base:Nat} {T P L:Value} {rs:List Value} {ks:List Kd} {ps:List Pd} {ls:List Ld} (h:AY w base T P L rs ks ps ls) {V:List Nat} (ht:Tn V w w') (hV:∀b∈V,b<base):AY w' base T P L rs ks ps ls:=by
 have hs:∀{e:TypeId} {size:Nat} {v:Value} {n:Nat} {xs:List Value},w.ownsRow base e size v n xs->w'.ownsRow base e size v n xs:=fun ho=>Ah ho (fun g hg=>ht.block g (Ac ho hg).2 (fun e=>by have:=hV g e;have:=(Ac ho hg).1;omega));exact⟨h.len,hs h.things,fun i k r hk hr=>hs (h.refs i k r hk hr),hs h.pins,hs h.leases,h.nd⟩
theorem AY.mono {w:World} {base zA:Nat} {T P L:Value} {rs:List Value} {ks:List Kd} {ps:List Pd} {ls:List Ld} (h:AY w base T P L rs ks ps ls) (hb:zA<=base):AY w zA T P L rs ks ps ls:=
 ⟨h.len,h.things.mono hb,fun i k r hk hr=>(h.refs i k r hk hr).mono hb,h.pins.mono hb,h.leases.mono hb,h.nd⟩
theorem AY.lo {w:World} {base:Nat} {T P L:Value} {rs:List Value} {ks:List Kd} {ps:List Pd} {ls:List Ld} (h:AY w base T P L rs ks ps ls):∀g∈Bn T P L rs,base<=g:=by
 intro g hg;unfold Bn at hg;simp only[List.mem_append,Option.mem_toList,List.mem_filterMap] at hg;rcases hg with hg|hg|hg|⟨r,hr,hg⟩
 ·exact(Ac h.things hg).1
 ·exact(Ac h.pins hg).1
 ·exact(Ac h.leases hg).1
 ·obtain⟨i,hi⟩:=List.getElem?_of_mem hr
  have hl:=(XC hi).1;rw[h.len] at hl;exact(Ac (h.refs i _ r (XD hl) hi) hg).1
theorem AY.lts {w:World} {base:Nat} {T P L:Value} {rs:List Value} {ks:List Kd} {ps:List Pd} {ls:List Ld} (h:AY w base T P L rs ks ps ls):∀g∈Bn T P L rs,g<w.heap.size:=by
 intro g hg;unfold Bn at hg;simp only[List.mem_append,Option.mem_toList,List.mem_filterMap] at hg;rcases hg with hg|hg|hg|⟨r,hr,hg⟩
 ·exact(Ac h.things hg).2
 ·exact(Ac h.pins hg).2
 ·exact(Ac h.leases hg).2
 ·obtain⟨i,hi⟩:=List.getElem?_of_mem hr
  have hl:=(XC hi).1;rw[h.len] at hl;exact(Ac (h.refs i _ r (XD hl) hi) hg).2
theorem AY.apart {w w':World} {base:Nat} {T P L:Value} {rs:List Value} {ks:List Kd} {ps:List Pd} {ls:List Ld} (h:AY w base T P L rs ks ps ls) {V:List Nat} (ht:Tn V w w') (hV:∀b∈V,b∉Bn T P L rs):AY w' base T P L rs ks ps ls:=by
 have zA:∀g,g∈Bn T P L rs->g<w.heap.size->w'.heap[g]?=w.heap[g]?:=fun g hg hl=>ht.block g hl (fun e=>hV g e hg)
 refine⟨h.len,Ah h.things (fun g hg=>zA g (by unfold Bn;simp[hg]) (Ac h.things hg).2),fun i k r hk hr=>Ah (h.refs i k r hk hr) (fun g hg=>zA g (by unfold Bn;simp only[List.mem_append,List.mem_filterMap];exact .inr (.inr (.inr ⟨r,XG hr,hg⟩))) (Ac (h.refs i k r hk hr) hg).2),Ah h.pins (fun g hg=>zA g (by unfold Bn;simp[hg]) (Ac h.pins hg).2),Ah h.leases (fun g hg=>zA g (by unfold Bn;simp[hg]) (Ac h.leases hg).2),h.nd⟩
theorem AY.rows {w:World} {base:Nat} {T P L:Value} {rs:List Value} {ks:List Kd} {ps:List Pd} {ls:List Ld} (h:AY w base T P L rs ks ps ls):∃ta tc pa pc la lc,T=.slice ta ks.length tc/\P=.slice pa ps.length pc/\L=.slice la ls.length lc/\Bt w w.heap.size ta pa la ks ps ls:=by
 obtain⟨ta,tc,rfl⟩:=Ay h.things;obtain⟨pa,pc,rfl⟩:=Ay h.pins;obtain⟨la,lc,rfl⟩:=Ay h.leases;refine⟨ta,tc,pa,pc,la,lc,rfl,rfl,rfl,⟨?_,AQ.own h.pins,AR.own h.leases⟩⟩;rcases h.things.2 with⟨_,hn⟩|⟨g,cap,zF,e,hb,hg,_⟩
 ·exact .inl (List.length_eq_zero_iff.1 hn)
 ·cases e
  refine .inr ⟨g,0,rfl,(Array.getElem?_eq_some_iff.1 hg).1,fun i k hk=> ?_⟩;have hi:=(XC hk).1;have zC:=h.len;have hr:rs[i]?=some rs[i]:=XD (by omega);have hz:(ks.zip rs)[i]?=some (k,rs[i]):=List.getElem?_zip_eq_some.2 ⟨hk,hr⟩;have zG:(ks.zip rs).length=ks.length:=by rw[List.length_zip];omega
  have hc:∀j,j<4->w.cell? (XL g (i *4+j))=(kC (k,rs[i]))[j]?:=fun j hj=>(h.things.cellAt (i *4+j) (by omega)).trans (Bl DG hz hj);have ho:=h.refs i k _ hk hr;obtain⟨ra,rc,zA⟩:=Ay ho;rw[Nat.zero_add];refine⟨by simpa [kC] using hc 0 (by decide),by simpa [kC] using hc 1 (by decide),by simpa [kC] using hc 2 (by decide),ra,rc,?_,?_⟩
  ·have:=hc 3 (by decide)
   rw[←zA];simpa [kC] using this
  ·rw[zA] at ho
   rcases ho.2 with⟨_,hn⟩|⟨g2,zB,zE,e2,_⟩
   ·exact .inl (List.eq_nil_of_length_eq_zero hn)
   ·cases e2
    exact Ae.own ho
theorem TG {ks:List Kd} (h:∀k∈ks,k.refs.length<=30):AC ks<=30 *ks.length:=by
 induction ks with
 |nil=>simp[AC]
 |cons x xs ih=>
  rw[JP];have h1:=h x (by simp);have h2:=ih (fun k hk=>h k (by simp[hk]));simp only[List.length_cons];omega
def CE (S U T P L Q M:Value) (rs:List Value):List Nat:=((AD S).toList++(AD U).toList)++(Bn T P L rs++((AD Q).toList++(AD M).toList))
structure Aw (w:World) (base:Nat) (S U T P L Q M:Value) (rs:List Value) (v:Vd):Prop where
 s:Ar w base S v.ss
 u:Ar w base U v.tt
 st:AY w base T P L rs v.ks v.ps v.ls
 q:Ar w base Q v.qs
 m:Ar w base M v.ms
 nd:(CE S U T P L Q M rs).Nodup
theorem Aw.lo {w:World} {base:Nat} {S U T P L Q M:Value} {rs:List Value} {v:Vd} (h:Aw w base S U T P L Q M rs v):∀g∈CE S U T P L Q M rs,base<=g:=by
 intro g hg;unfold CE at hg;simp only[List.mem_append,Option.mem_toList] at hg;rcases hg with(hg|hg)|hg|hg|hg
 ·exact(h.s.blk hg).1
 ·exact(h.u.blk hg).1
 ·exact h.st.lo g hg
 ·exact(h.q.blk hg).1
 ·exact(h.m.blk hg).1
theorem Aw.lts {w:World} {base:Nat} {S U T P L Q M:Value} {rs:List Value} {v:Vd} (h:Aw w base S U T P L Q M rs v):∀g∈CE S U T P L Q M rs,g<w.heap.size:=by
 intro g hg;unfold CE at hg;simp only[List.mem_append,Option.mem_toList] at hg;rcases hg with(hg|hg)|hg|hg|hg
 ·exact(h.s.blk hg).2
 ·exact(h.u.blk hg).2
 ·exact h.st.lts g hg
 ·exact(h.q.blk hg).2
 ·exact(h.m.blk hg).2
theorem Aw.stays {w w':World} {base:Nat} {S U T P L Q M:Value} {rs:List Value} {v:Vd} (h:Aw w base S U T P L Q M rs v) {V:List Nat} (ht:Tn V w w') (hV:∀b∈V,b∉CE S U T P L Q M rs):Aw w' base S U T P L Q M rs v:=by
 have e:∀b∈CE S U T P L Q M rs,b∉V:=fun b hb hv=>hV b hv hb;unfold CE at e;simp only[List.mem_append,Option.mem_toList] at e;exact⟨h.s.turn ht (fun g hg=>e g (.inl (.inl hg))),h.u.turn ht (fun g hg=>e g (.inl (.inr hg))),h.st.apart ht (fun b hb hx=>e b (.inr (.inl hx)) hb),h.q.turn ht (fun g hg=>e g (.inr (.inr (.inl hg)))),h.m.turn ht (fun g hg=>e g (.inr (.inr (.inr hg)))),h.nd⟩
theorem Aw.below {w w':World} {base:Nat} {S U T P L Q M:Value} {rs:List Value} {v:Vd} (h:Aw w base S U T P L Q M rs v) (hb:Xz w w'):Aw w' base S U T P L Q M rs v:=
 h.stays (V:=[]) (Tn.of hb) (by simp)
theorem Aw.mono {w:World} {base zA:Nat} {S U T P L Q M:Value} {rs:List Value} {v:Vd} (h:Aw w base S U T P L Q M rs v) (hb:zA<=base):Aw w zA S U T P L Q M rs v:=
 ⟨h.s.mono hb,h.u.mono hb,h.st.mono hb,h.q.mono hb,h.m.mono hb,h.nd⟩
theorem Aw.of {w:World} {base n1 n2:Nat} {S U T P L Q M:Value} {rs:List Value} {v:Vd} (hs:Ar w base S v.ss) (hu:Ar w base U v.tt) (zE:∀g,AD S=some g->AD U≠some g) (h1:∀g,AD S=some g∨AD U=some g->g<n1)
 (zA:AY w n1 T P L rs v.ks v.ps v.ls) (hb:base<=n1) (h2:∀g∈Bn T P L rs,g<n2) (hq:Ar w base Q v.qs) (hm:Ar w base M v.ms) (h3:∀g,AD Q=some g∨AD M=some g->n2<=g) (zF:n1<=n2) (zC:∀g,AD Q=some g->AD M≠some g):Aw w base S U T P L Q M rs v:=by
 refine⟨hs,hu,zA.mono hb,hq,hm,?_⟩;have hn:=zA.nd;rw[Fc] at hn;have zB:=zA.lo;unfold CE;generalize Bn T P L rs=B at *
 generalize AD S=s at *
 generalize AD U=u at *
 generalize AD Q=q at *
 generalize AD M=m at *
 have one:∀o:Option Nat,o.toList.Nodup:=fun o=>by cases o<;>simp
 simp only[List.nodup_append,List.mem_append,Option.mem_toList];refine⟨⟨one _,one _,fun a ha b hb e=>zE a ha (e▸hb)⟩,⟨hn,⟨one _,one _,fun a ha b hb e=>zC a ha (e▸hb)⟩,fun a ha b hb e=> ?_⟩,fun a ha b hb e=> ?_⟩
 ·have q1:=h2 a ha
  have q2:=h3 b hb;omega
 ·have q1:=h1 a ha
  rcases hb with hb|hb
  ·have:=zB b hb;omega
  ·have:=h3 b hb;omega
def Ek (k:Nat) (v:Vd):Vd:=
 {v with
  ss:=marks k v.ss.length
  tt:=marks (k+v.ss.length) v.tt.length
  ks:=BN (k+v.ss.length+v.tt.length) v.ks
  ps:=Dv (k+v.ss.length+v.tt.length+v.ks.length *3+AC v.ks) v.ps
  ls:=Dw (k+v.ss.length+v.tt.length+v.ks.length *3+AC v.ks+v.ps.length *2) v.ls
  qs:=marks (k+v.ss.length+v.tt.length+Cv v.ks v.ps v.ls) v.qs.length
  ms:=marks (k+v.ss.length+v.tt.length+Cv v.ks v.ps v.ls+v.qs.length) v.ms.length}
def CL (v:Vd):Nat:=v.ss.length+v.tt.length+Cv v.ks v.ps v.ls+v.qs.length+v.ms.length
theorem TH (base k:Nat) (S U:Value) (ss tt:List ByteArray) (w:World) (h1:Ar w base S ss) (h2:Ar w base U tt) (zG:∀g,AD S=some g->AD U≠some g) (hk:1<=k) (zP:k+ss.length+tt.length<=100000000):
 Calls prog 24 #[.agg #[S,U],XJ k] w fun e w'=>e=.returned (XJ (k+ss.length+tt.length:Nat))/\Ar w' base S (marks k ss.length)/\Ar w' base U (marks (k+ss.length) tt.length)/\Tn ((AD S).toList++(AD U).toList) w w':=by
 obtain⟨qa,qc,rfl,_⟩:=h1.row;obtain⟨ma,mc,rfl,_⟩:=h2.row;obtain⟨W,hW⟩:∃W,W=w.alloc (.cells #[.slice qa ss.length qc,.slice ma tt.length mc] 40):=⟨_,rfl⟩;have hb:=(Aq hW).1;have hz:=(Aq hW).2.2;have HZ:Hid (Aa W _ _):=(Aq hW).2.2;obtain⟨z1,_⟩:=hz 0 _ rfl;have HR:Hid (Ar W base (.slice qa ss.length qc) ss/\Ar W base (.slice ma tt.length mc) tt):=⟨h1.below hb,h2.below hb⟩
 have zN:Hid ((∀g,AD (.slice qa ss.length qc)=some g->g<w.heap.size)/\(∀g,AD (.slice ma tt.length mc)=some g->g<w.heap.size)):=⟨fun g hg=>(h1.blk hg).2,fun g hg=>(h2.blk hg).2⟩;have HN:Hid (∀g,AD (.slice qa ss.length qc)=some g->AD (.slice ma tt.length mc)≠some g):=zG;have HW:Hid _:=hW;have HB:Hid (Xz w W):=hb;clear h1 h2 zG hW hz hb;go_enter func24,ntmps24;go_upto_region 1 with fail;rw[←HW.o]
 clear HW;go_wp2_with fail;refine(GC base k _ ss W HR.o.1 hk (by omega)).mono ?_;rintro e w1 ⟨rfl,zF,zA⟩;have zK:w.heap.size<W.heap.size:=Aa.lt HZ.o;have zH:Aa w1 w.heap.size [.slice qa ss.length qc,.slice ma tt.length mc]:=Aa.same HZ.o (zA.block _ zK (fun e=>by have:=zN.o.1 _ e.symm;omega))
 have zE:Ar w1 base (.slice ma tt.length mc) tt:=HR.o.2.stays zA.size (fun g hg=>zA.block g (HR.o.2.blk hg).2 (fun e=>HN.o g e.symm hg));obtain⟨y2,_⟩:=zH 1 _ rfl;have zO:Hid (Ar w1 base (.slice ma tt.length mc) tt):=zE;have zC:Hid (Ar w1 base (.slice qa ss.length qc) (marks k ss.length)/\W.grownBy w1 (AD (.slice qa ss.length qc))):=⟨zF,zA⟩;clear z1 zH zE zF zA;go_wp2_with fail
 refine(GC base (k+ss.length) _ tt w1 zO.o (by omega) (by omega)).mono ?_;rintro e w2 ⟨rfl,zI,zB⟩;have zJ:Hid (Ar w2 base (.slice qa ss.length qc) (marks k ss.length)):=zC.o.1.stays zB.size (fun g hg=>zB.block g (zC.o.1.blk hg).2 (fun e=>HN.o g hg e.symm))
 have HT:Hid (Tn ((AD (.slice qa ss.length qc)).toList++(AD (.slice ma tt.length mc)).toList) w w2):=((Tn.of HB.o).trans ((Cn zC.o.2).mono (by simp;exact fun b h=> .inl h))).trans ((Cn zB).mono (by simp;exact fun b h=> .inr h));have zM:Hid (Ar w2 base (.slice ma tt.length mc) (marks (k+ss.length) tt.length)):=zI;clear y2 zI zB;go_wp2;go_ret;exact⟨rfl,zJ.o,zM.o,HT.o⟩
theorem WZ {S U T P L Q M:Value} {rs:List Value} (h:(CE S U T P L Q M rs).Nodup):
 (∀g,AD S=some g->AD U≠some g/\g∉Bn T P L rs/\AD Q≠some g/\AD M≠some g)/\(∀g,AD U=some g->g∉Bn T P L rs/\AD Q≠some g/\AD M≠some g)/\(∀g∈Bn T P L rs,AD Q≠some g/\AD M≠some g)/\(∀g,AD Q=some g->AD M≠some g):=by
 unfold CE at h;generalize Bn T P L rs=B at *
 generalize AD S=s at *
 generalize AD U=u at *
 generalize AD Q=q at *
 generalize AD M=m at *
 simp only[List.nodup_append,List.mem_append,Option.mem_toList] at h;obtain⟨⟨_,_,h1⟩,⟨_,⟨_,_,h2⟩,h3⟩,h4⟩:=h
 refine⟨fun g hg=>⟨fun e=>h1 g hg g e rfl,fun e=>h4 g (.inl hg) g (.inl e) rfl,fun e=>h4 g (.inl hg) g (.inr (.inl e)) rfl,fun e=>h4 g (.inl hg) g (.inr (.inr e)) rfl⟩,fun g hg=>⟨fun e=>h4 g (.inr hg) g (.inl e) rfl,fun e=>h4 g (.inr hg) g (.inr (.inl e)) rfl,fun e=>h4 g (.inr hg) g (.inr (.inr e)) rfl⟩,fun g hg=>⟨fun e=>h3 g hg g (.inl e) rfl,fun e=>h3 g hg g (.inr e) rfl⟩,fun g hg e=>h2 g hg g e rfl⟩
theorem Kg (v:Vd) (base k:Nat) (S U T P L Q M:Value) (rs:List Value) (w:World) (h:Aw w base S U T P L Q M rs v) (hk:1<=k) (zF:k+CL v<=100000000):
 Calls prog 25 #[.agg #[XJ v.wd,XJ v.lim,S,U,XJ v.sw,XJ v.now,XJ v.given,XJ v.births,T,P,L,XJ v.ph,Q,M,XJ v.top,XJ v.at_,XJ v.ro],XJ k] w fun e w'=>e=.returned (XJ (k+CL v:Nat))/\Aw w' base S U T P L Q M rs (Ek k v)/\Tn (CE S U T P L Q M rs) w w':=by
 obtain⟨sa,sc,rfl,_⟩:=h.s.row;obtain⟨ua,uc,rfl,_⟩:=h.u.row;obtain⟨ta,tc,rfl⟩:=Ay h.st.things;obtain⟨pa,pc,rfl⟩:=Ay h.st.pins;obtain⟨la,lc,rfl⟩:=Ay h.st.leases;obtain⟨qa,qc,rfl,_⟩:=h.q.row;obtain⟨ma,mc,rfl,_⟩:=h.m.row
 obtain⟨W,hW⟩:∃W,W=w.alloc (.cells #[XJ v.wd,XJ v.lim,.slice sa v.ss.length sc,.slice ua v.tt.length uc,XJ v.sw,XJ v.now,XJ v.given,XJ v.births,.slice ta v.ks.length tc,.slice pa v.ps.length pc,.slice la v.ls.length lc,XJ v.ph,.slice qa v.qs.length qc,.slice ma v.ms.length mc,XJ v.top,XJ v.at_,XJ v.ro] 44):=⟨_,rfl⟩;have hb:=(Aq hW).1;have hz:=(Aq hW).2.2;have HZ:Hid (Aa W _ _):=(Aq hW).2.2
 have HA:Hid (Aw W base (.slice sa v.ss.length sc) (.slice ua v.tt.length uc) (.slice ta v.ks.length tc) (.slice pa v.ps.length pc) (.slice la v.ls.length lc) (.slice qa v.qs.length qc) (.slice ma v.ms.length mc) rs v):=h.below hb
 have zG:Hid (∀g∈CE (.slice sa v.ss.length sc) (.slice ua v.tt.length uc) (.slice ta v.ks.length tc) (.slice pa v.ps.length pc) (.slice la v.ls.length lc) (.slice qa v.qs.length qc) (.slice ma v.ms.length mc) rs,g<w.heap.size):=h.lts;have HN:Hid _:=WZ h.nd
 have yK:Hid ((CE (.slice sa v.ss.length sc) (.slice ua v.tt.length uc) (.slice ta v.ks.length tc) (.slice pa v.ps.length pc) (.slice la v.ls.length lc) (.slice qa v.qs.length qc) (.slice ma v.ms.length mc) rs).Nodup):=h.nd;have zP:w.heap.size<W.heap.size:=Aa.lt hz;obtain⟨c2,c3⟩:=Aa.c2 hz 2 3;have HW:Hid _:=hW;have HB:Hid (Xz w W):=hb
 have yM:k+v.ss.length+v.tt.length<=100000000:=by unfold CL at zF;omega
 have yE:k+v.ss.length+v.tt.length+Cv v.ks v.ps v.ls<=100000000:=by unfold CL at zF;omega
 have yC:k+v.ss.length+v.tt.length+Cv v.ks v.ps v.ls+v.qs.length+v.ms.length<=100000000:=by unfold CL at zF;omega
 have yF:Hid (k+CL v=k+v.ss.length+v.tt.length+Cv v.ks v.ps v.ls+v.qs.length+v.ms.length):=by show k+CL v=_;unfold CL;omega
 rw[yF.o];clear h hW hz hb zF;go_enter func25,ntmps25;go_upto_region 1 with fail;rw[←HW.o];clear HW;go_wp2_with fail;refine(TH base k _ _ v.ss v.tt W HA.o.s HA.o.u (fun g hg=>(HN.o.1 g hg).1) hk yM).mono ?_;rintro e w1 ⟨rfl,zY,zM,zB⟩
 have n1:∀b∈(AD (.slice sa v.ss.length sc)).toList++(AD (.slice ua v.tt.length uc)).toList,b<w.heap.size:=fun b hb=>zG.o b (by unfold CE;exact List.mem_append.2 (.inl hb))
 have z1:Aa w1 w.heap.size [XJ v.wd,XJ v.lim,.slice sa v.ss.length sc,.slice ua v.tt.length uc,XJ v.sw,XJ v.now,XJ v.given,XJ v.births,.slice ta v.ks.length tc,.slice pa v.ps.length pc,.slice la v.ls.length lc,XJ v.ph,.slice qa v.qs.length qc,.slice ma v.ms.length mc,XJ v.top,XJ v.at_,XJ v.ro]:=Aa.same HZ.o (zB.block _ zP (fun e=>by have:=n1 _ e;omega))
 have e1:∀b∈(AD (.slice sa v.ss.length sc)).toList++(AD (.slice ua v.tt.length uc)).toList,b∉Bn (.slice ta v.ks.length tc) (.slice pa v.ps.length pc) (.slice la v.ls.length lc) rs/\AD (.slice qa v.qs.length qc)≠some b/\AD (.slice ma v.ms.length mc)≠some b:=by
  intro b hb;simp only[List.mem_append,Option.mem_toList] at hb;rcases hb with hb|hb
  ·exact(HN.o.1 b hb).2
  ·exact HN.o.2.1 b hb
 have zW:=HA.o.st.apart zB (fun b hb=>(e1 b hb).1);have zN:=HA.o.q.turn zB (fun g hg e=>(e1 g e).2.1 hg);have zI:=HA.o.m.turn zB (fun g hg e=>(e1 g e).2.2 hg);have H1:Hid _:=And.intro zY (And.intro zM (And.intro zW (And.intro zN (And.intro zI ((Tn.of HB.o).trans zB)))));have zC:w.heap.size<w1.heap.size:=XH zP zB.size
 have zR:Hid (Aa w1 w.heap.size [XJ v.wd,XJ v.lim,.slice sa v.ss.length sc,.slice ua v.tt.length uc,XJ v.sw,XJ v.now,XJ v.given,XJ v.births,.slice ta v.ks.length tc,.slice pa v.ps.length pc,.slice la v.ls.length lc,XJ v.ph,.slice qa v.qs.length qc,.slice ma v.ms.length mc,XJ v.top,XJ v.at_,XJ v.ro]):=z1;clear zY zM zW zN zI zB c2 c3 HZ HA e1 n1;obtain⟨c4,c5,c6,c7,c8,c9,yJ⟩:=Aa.c7 z1 4 5 6 7 8 9 10
 clear z1;go_wp2_with fail;refine(PY v.sw v.now v.given v.births base (k+v.ss.length+v.tt.length) _ _ _ rs v.ks v.ps v.ls w1 H1.o.2.2.1 (by omega) yE).mono ?_;rintro e w2 ⟨rfl,zO,zA⟩
 have z2:Aa w2 w.heap.size [XJ v.wd,XJ v.lim,.slice sa v.ss.length sc,.slice ua v.tt.length uc,XJ v.sw,XJ v.now,XJ v.given,XJ v.births,.slice ta v.ks.length tc,.slice pa v.ps.length pc,.slice la v.ls.length lc,XJ v.ph,.slice qa v.qs.length qc,.slice ma v.ms.length mc,XJ v.top,XJ v.at_,XJ v.ro]:=Aa.same zR.o (zA.block _ zC (fun e=>by have:=zG.o _ (by unfold CE;exact List.mem_append.2 (.inr (List.mem_append.2 (.inl e))));omega))
 have zZ:=H1.o.1.turn zA (fun g hg e=>(HN.o.1 g hg).2.1 e);have zH:=H1.o.2.1.turn zA (fun g hg e=>(HN.o.2.1 g hg).1 e);have zT:=H1.o.2.2.2.1.turn zA (fun g hg e=>(HN.o.2.2.1 g e).1 hg);have zJ:=H1.o.2.2.2.2.1.turn zA (fun g hg e=>(HN.o.2.2.1 g e).2 hg)
 have zX:Tn (CE (.slice sa v.ss.length sc) (.slice ua v.tt.length uc) (.slice ta v.ks.length tc) (.slice pa v.ps.length pc) (.slice la v.ls.length lc) (.slice qa v.qs.length qc) (.slice ma v.ms.length mc) rs) w w2:=(H1.o.2.2.2.2.2.mono (fun b hb=>by unfold CE;exact List.mem_append.2 (.inl hb))).trans (zA.mono (fun b hb=>by unfold CE;exact List.mem_append.2 (.inr (List.mem_append.2 (.inl hb)))))
 have H2:Hid _:=And.intro zZ (And.intro zH (And.intro zO (And.intro zT (And.intro zJ zX))));have yG:w.heap.size<w2.heap.size:=XH zC zA.size;clear zZ zH zO zT zJ zA zX H1 zR c4 c5 c6 c7 c8 c9 yJ;obtain⟨yD,Ki,yL,yH,yI,yN⟩:=Aa.c6 z2 11 12 13 14 15 16;clear z2;go_wp2_with fail
 refine(Qe v.ph v.top v.at_ v.ro base (k+v.ss.length+v.tt.length+Cv v.ks v.ps v.ls) _ _ v.qs v.ms w2 H2.o.2.2.2.1 H2.o.2.2.2.2.1 (fun g hg=>HN.o.2.2.2 g hg) (by omega) yC).mono ?_;rintro e w3 ⟨rfl,zK,yB,zE⟩
 have e3:∀b∈(AD (.slice qa v.qs.length qc)).toList++(AD (.slice ma v.ms.length mc)).toList,AD (.slice sa v.ss.length sc)≠some b/\AD (.slice ua v.tt.length uc)≠some b/\b∉Bn (.slice ta v.ks.length tc) (.slice pa v.ps.length pc) (.slice la v.ls.length lc) rs:=by
  intro b hb;simp only[List.mem_append,Option.mem_toList] at hb;rcases hb with hb|hb
  ·exact⟨fun e=>(HN.o.1 b e).2.2.1 hb,fun e=>(HN.o.2.1 b e).2.1 hb,fun e=>(HN.o.2.2.1 b e).1 hb⟩
  ·exact⟨fun e=>(HN.o.1 b e).2.2.2 hb,fun e=>(HN.o.2.1 b e).2.2 hb,fun e=>(HN.o.2.2.1 b e).2 hb⟩
 have zU:=H2.o.1.turn zE (fun g hg e=>(e3 g e).1 hg);have zV:=H2.o.2.1.turn zE (fun g hg e=>(e3 g e).2.1 hg);have yA:=H2.o.2.2.1.apart zE (fun b hb=>(e3 b hb).2.2)
 have zS:Tn (CE (.slice sa v.ss.length sc) (.slice ua v.tt.length uc) (.slice ta v.ks.length tc) (.slice pa v.ps.length pc) (.slice la v.ls.length lc) (.slice qa v.qs.length qc) (.slice ma v.ms.length mc) rs) w w3:=H2.o.2.2.2.2.2.trans (zE.mono (fun b hb=>by unfold CE;exact List.mem_append.2 (.inr (List.mem_append.2 (.inr hb)))))
 have H3:Hid (_/\_):=And.intro zS (And.intro zU (And.intro zV (And.intro yA (And.intro zK yB))));clear zU zV yA zK yB zE zS H2 e3 yD Ki yL yH yI yN zG HN;go_wp2;go_ret;exact⟨rfl,⟨H3.o.2.1,H3.o.2.2.1,H3.o.2.2.2.1,H3.o.2.2.2.2.1,H3.o.2.2.2.2.2,yK.o⟩,H3.o.1⟩
theorem Qf (v:Vd) (base k:Nat) (S U T P L Q M:Value) (rs:List Value) (w:World) (h:Aw w base S U T P L Q M rs (Ek k v)) (hk:1<=k) (zC:k+CL v<=100000000):
 Calls prog 26 #[.agg #[XJ v.wd,XJ v.lim,S,U,XJ v.sw,XJ v.now,XJ v.given,XJ v.births,T,P,L,XJ v.ph,Q,M,XJ v.top,XJ v.at_,XJ v.ro],XJ k] w fun e w'=>e=.returned (XJ (k+CL v:Nat))/\Xz w w':=by
 obtain⟨sa,sc,eS,hS⟩:=h.s.row;obtain⟨ua,uc,eU,hU⟩:=h.u.row;obtain⟨ta,tc,eT⟩:=Ay h.st.things;obtain⟨pa,pc,eP⟩:=Ay h.st.pins;obtain⟨la,lc,eL⟩:=Ay h.st.leases;obtain⟨qa,qc,eQ,hQ⟩:=h.q.row;obtain⟨ma,mc,eM,hM⟩:=h.m.row;have l1:(Ek k v).ss.length=v.ss.length:=BA _ _;have l2:(Ek k v).tt.length=v.tt.length:=BA _ _;have l3:(Ek k v).ks.length=v.ks.length:=BD _ _
 have l4:(Ek k v).ps.length=v.ps.length:=DS _ _;have l5:(Ek k v).ls.length=v.ls.length:=EP _ _;have l6:(Ek k v).qs.length=v.qs.length:=BA _ _;have l7:(Ek k v).ms.length=v.ms.length:=BA _ _;rw[l1] at eS;rw[l2] at eU;rw[l3] at eT;rw[l4] at eP;rw[l5] at eL;rw[l6] at eQ;rw[l7] at eM;subst eS eU eT eP eL eQ eM
 obtain⟨W,hW⟩:∃W,W=w.alloc (.cells #[XJ v.wd,XJ v.lim,.slice sa v.ss.length sc,.slice ua v.tt.length uc,XJ v.sw,XJ v.now,XJ v.given,XJ v.births,.slice ta v.ks.length tc,.slice pa v.ps.length pc,.slice la v.ls.length lc,XJ v.ph,.slice qa v.qs.length qc,.slice ma v.ms.length mc,XJ v.top,XJ v.at_,XJ v.ro] 44):=⟨_,rfl⟩;have hb:=(Aq hW).1;have hz:=(Aq hW).2.2;have HZ:Hid (Aa W _ _):=(Aq hW).2.2
 have HA:Hid (AY w base (.slice ta v.ks.length tc) (.slice pa v.ps.length pc) (.slice la v.ls.length lc) rs (BN (k+v.ss.length+v.tt.length) v.ks) (Dv (k+v.ss.length+v.tt.length+v.ks.length *3+AC v.ks) v.ps) (Dw (k+v.ss.length+v.tt.length+v.ks.length *3+AC v.ks+v.ps.length *2) v.ls)):=h.st
 have HR:Hid (Ae w w.heap.size sa (marks k v.ss.length)/\Ae w w.heap.size ua (marks (k+v.ss.length) v.tt.length)/\Ae w w.heap.size qa (marks (k+v.ss.length+v.tt.length+Cv v.ks v.ps v.ls) v.qs.length)/\Ae w w.heap.size ma (marks (k+v.ss.length+v.tt.length+Cv v.ks v.ps v.ls+v.qs.length) v.ms.length)):=⟨hS,hU,hQ,hM⟩;obtain⟨c2,c3⟩:=Aa.c2 hz 2 3;have HW:Hid _:=hW;have HB:Hid (Xz w W):=hb
 have zT:k+v.ss.length+v.tt.length<=100000000:=by unfold CL at zC;omega
 have zM:k+v.ss.length+v.tt.length+Cv v.ks v.ps v.ls<=100000000:=by unfold CL at zC;omega
 have zJ:k+v.ss.length+v.tt.length+Cv v.ks v.ps v.ls+v.qs.length+v.ms.length<=100000000:=by unfold CL at zC;omega
 have zN:Hid (k+CL v=k+v.ss.length+v.tt.length+Cv v.ks v.ps v.ls+v.qs.length+v.ms.length):=by show k+CL v=_;unfold CL;omega
 rw[zN.o];clear h hW hz hb zC hS hU hQ hM l1 l2 l3 l4 l5 l6 l7;go_enter func26,ntmps26;go_upto_region 1 with fail;rw[←HW.o];clear HW;go_wp2_with fail;refine(Oh sa ua v.ss.length v.tt.length sc uc k W ((HR.o.1.below HB.o).mono HB.o.size) ((HR.o.2.1.below HB.o).mono HB.o.size) hk zT).mono ?_;rintro e w1 ⟨rfl,zE⟩
 have z1:Aa w1 w.heap.size [XJ v.wd,XJ v.lim,.slice sa v.ss.length sc,.slice ua v.tt.length uc,XJ v.sw,XJ v.now,XJ v.given,XJ v.births,.slice ta v.ks.length tc,.slice pa v.ps.length pc,.slice la v.ls.length lc,XJ v.ph,.slice qa v.qs.length qc,.slice ma v.ms.length mc,XJ v.top,XJ v.at_,XJ v.ro]:=Aa.below HZ.o zE
 have zG:Hid (Aa w1 w.heap.size [XJ v.wd,XJ v.lim,.slice sa v.ss.length sc,.slice ua v.tt.length uc,XJ v.sw,XJ v.now,XJ v.given,XJ v.births,.slice ta v.ks.length tc,.slice pa v.ps.length pc,.slice la v.ls.length lc,XJ v.ph,.slice qa v.qs.length qc,.slice ma v.ms.length mc,XJ v.top,XJ v.at_,XJ v.ro]):=z1;have zB:Hid (Xz w w1):=HB.o.trans (zE.mono HB.o.size)
 obtain⟨c4,c5,c6,c7,c8,c9,zR⟩:=Aa.c7 z1 4 5 6 7 8 9 10;clear z1 zE c2 c3 HZ HB;go_wp2_with fail;refine(PZ v.sw v.now v.given v.births base (k+v.ss.length+v.tt.length) _ _ _ rs v.ks v.ps v.ls w1 (HA.o.below zB.o) (by omega) zM).mono ?_;rintro e w2 ⟨rfl,zF⟩
 have z2:Aa w2 w.heap.size [XJ v.wd,XJ v.lim,.slice sa v.ss.length sc,.slice ua v.tt.length uc,XJ v.sw,XJ v.now,XJ v.given,XJ v.births,.slice ta v.ks.length tc,.slice pa v.ps.length pc,.slice la v.ls.length lc,XJ v.ph,.slice qa v.qs.length qc,.slice ma v.ms.length mc,XJ v.top,XJ v.at_,XJ v.ro]:=Aa.below zG.o zF;have zA:Hid (Xz w w2):=zB.o.trans (zF.mono zB.o.size)
 obtain⟨zK,Ki,zS,zO,zP,zU⟩:=Aa.c6 z2 11 12 13 14 15 16;clear z2 zF c4 c5 c6 c7 c8 c9 zR zG zB;go_wp2_with fail;refine(LZ v.ph v.top v.at_ v.ro qa ma v.qs.length v.ms.length qc mc (k+v.ss.length+v.tt.length+Cv v.ks v.ps v.ls) w2 ((HR.o.2.2.1.below zA.o).mono zA.o.size) ((HR.o.2.2.2.below zA.o).mono zA.o.size) (by omega) zJ).mono ?_;rintro e w3 ⟨rfl,zH⟩
 have zI:Hid (Xz w w3):=zA.o.trans (zH.mono zA.o.size);clear zK Ki zS zO zP zU zH zA HR HA;go_wp2;go_ret;exact⟨rfl,zI.o⟩
theorem Qg (a b:Option Addr) (c d:Nat) (ss tt:List ByteArray) (w:World) (hr:Ae w w.heap.size a ss) (hq:Ae w w.heap.size b tt) (hl:ss.length<=100000) (zT:tt.length<=1048576):
 Calls prog 177 #[.slice a ss.length c,.slice b tt.length d] w fun e w'=>Ak (ss=tt) w w' e:=by
 have HR:Hid (∀X,Xz w X->Ae X w.heap.size a ss/\Ae X w.heap.size b tt):=fun X hX=>⟨hr.below hX,hq.below hX⟩;clear hr hq;by_cases hlen:ss.length=tt.length
 ·have zH:((ss.length:Int) !=(tt.length:Int))=false:=by simp;omega
  have zC:Hid _:=hlen;clear hlen;go_enter func177,ntmps177;go_wp2
  go_loopw [13] (fun i wr=>∃k:Nat,k<=ss.length/\i=XJ k/\Hid (ss.take k=tt.take k/\Xz w wr)) (fun i _=>ss.length -(intOf i).toNat)
  case atStart=>exact⟨0,Nat.zero_le _,rfl,⟨by simp,Below.refl _ _⟩⟩
  case round=>
   obtain⟨k,hk,rfl,HI⟩:=hrel;by_cases hlt:k<ss.length
   ·have zA:k<tt.length:=by have:=zC.o;omega
    obtain⟨rb,ro,ha,zM,zG⟩:=(HR.o wr HI.o.2).1.at hlt;obtain⟨qb,qo,hb,zJ,zF⟩:=(HR.o wr HI.o.2).2.at zA;subst ha hb;have c0:=zG k _ (XD hlt);have d0:=zF k _ (XD zA);have hz:=HI.o.2.size;have zV:=XH zM hz;have zS:=XH zJ hz;have zP:Hid _:=XE hlt;have zI:Hid _:=XE zA;have HN:Hid (∀x y,ss[k]?=some x->tt[k]?=some y->x≠y->ss≠tt):=fun x y h1 h2 hne e=>by
     subst e;rw[h1] at h2;exact hne (Option.some.inj h2)
    have zN:Hid _:=XD hlt;have zK:Hid _:=XD zA;have zU:(k:Int)<tt.length:=by omega
    clear zG zF;generalize ss[k]=x at *
    generalize tt[k]=y at *
    have HB:Hid _:=HI.o.2;by_cases hxy:x=y
    ·subst hxy
     have zE:(x.toList !=x.toList)=false:=by simp
     go_wp2
     go_region
     all_goals go_wp2
     all_goals exact⟨⟨k+1,by omega,by go_num,⟨by rw[zP.o,zI.o,HI.o.1],HB.o.drew⟩⟩,by simp[intOf];omega⟩
    ·have zE:=BJ hxy
     have zO:(x.toList !=y.toList)=true:=by simp[bne,zE]
     go_wp2
     go_region
     all_goals go_wp2
     all_goals go_ret
     all_goals exact Ak.no (fun h=>HN.o x y zN.o zK.o hxy h) HB.o.drew
   ·obtain rfl:k=ss.length:=by omega
    have zB:=HI.o.1;rw[XF (XB),XF (by have:=zC.o;omega)] at zB;go_wp2;go_ret;exact Ak.yes zB HI.o.2
 ·have zH:((ss.length:Int)==(tt.length:Int))=false:=by simp;omega
  have zR:((ss.length:Int) !=(tt.length:Int))=true:=by simp;omega
  go_enter func177,ntmps177;go_wp2;go_ret;exact Ak.no (fun h=>hlen (by rw[h])) (Below.refl _ _)
theorem Kd.eq_iff (x y:Kd):x=y↔x.sum=y.sum/\x.born=y.born/\x.text=y.text/\x.refs=y.refs:=by
 cases x;cases y;simp
theorem No (x y:Kd) (a b:Option Addr) (c d:Nat) (w:World) (hr:Ae w w.heap.size a x.refs) (hq:Ae w w.heap.size b y.refs) (hl:x.refs.length<=100000) (zB:y.refs.length<=1048576):
 Calls prog 150 #[.agg #[.string x.sum,XJ x.born,.string x.text,.slice a x.refs.length c],.agg #[.string y.sum,XJ y.born,.string y.text,.slice b y.refs.length d]] w fun e w'=>Ak (x=y) w w' e:=by
 obtain⟨W,hW⟩:∃W,W=(w.alloc (.cells #[.string x.sum,XJ x.born,.string x.text,.slice a x.refs.length c] 114)).alloc (.cells #[.string y.sum,XJ y.born,.string y.text,.slice b y.refs.length d] 114):=⟨_,rfl⟩;have bW:=(AP hW).1;have x0:=(AP hW).2.2.1;have x1:Aa W (w.heap.size+1) [.string y.sum,XJ y.born,.string y.text,.slice b y.refs.length d]:=by
  have h1:=Aa.new (w.alloc (.cells #[.string x.sum,XJ x.born,.string x.text,.slice a x.refs.length c] 114)) [.string y.sum,XJ y.born,.string y.text,.slice b y.refs.length d] 114;rw[World.size_alloc] at h1;rw[hW];exact h1
 have HQ:Hid _:=Qg a b c d x.refs y.refs W (hr.below' bW) (hq.below' bW) hl zB;obtain⟨u0,u1,u2,u3⟩:=Aa.c4 x0 0 1 2 3;obtain⟨v0,v1,v2,v3⟩:=Aa.c4 x1 0 1 2 3;have HW:Hid _:=hW;have HE:Hid _:=Kd.eq_iff x y;clear hW hr hq x0 x1;by_cases h1:x.sum=y.sum
 ·have e1:(x.sum.toList==y.sum.toList)=true:=by rw[h1];simp
  have H1:Hid _:=h1;clear h1;by_cases h2:x.born=y.born
  ·have e2:(x.born==y.born)=true:=by simp[h2]
   have H2:Hid _:=h2;clear h2;by_cases h3:x.text=y.text
   ·have e3:(x.text.toList==y.text.toList)=true:=by rw[h3];simp
    have H3:Hid _:=h3;clear h3;go_enter func150,ntmps150;go_upto_region 1 with fail;rw[←HW.o];clear HW;go_wp2_with fail;refine Calls.mono HQ.o ?_;rintro e w1 ⟨bb,rfl,zC,zA⟩;have hB:=bW.trans (zA.mono bW.size);clear u0 u1 u2 u3 v0 v1 v2 v3;go_wp2;go_ret;exact⟨bb,rfl,by rw[zC,HE.o];exact⟨fun h=>⟨H1.o,H2.o,H3.o,h⟩,fun h=>h.2.2.2⟩,hB⟩
   ·have e3:=BJ h3
    go_enter func150,ntmps150;go_upto_region 1 with fail;rw[←HW.o];go_wp2_with fail
    all_goals (try go_wp2)
    all_goals (try go_ret)
    all_goals exact Ak.no (fun h=>h3 (by rw[h])) bW
  ·have e2:(x.born==y.born)=false:=by simp[h2]
   go_enter func150,ntmps150;go_upto_region 1 with fail;rw[←HW.o];go_wp2_with fail
   all_goals (try go_wp2)
   all_goals (try go_ret)
   all_goals exact Ak.no (fun h=>h2 (by rw[h])) bW
 ·have e1:=BJ h1
  go_enter func150,ntmps150;go_upto_region 1 with fail;rw[←HW.o];go_wp2_with fail
  all_goals (try go_wp2)
  all_goals (try go_ret)
  all_goals exact Ak.no (fun h=>h1 (by rw[h])) bW
end Go.Proofs.YtpekbmegopfhfaaGreatDoor
