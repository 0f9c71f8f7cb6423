import Derived.Test.YtpekbmegopfhfaaGreatDoorY26
import Derived.Test.YtpekbmegopfhfaaGreatDoorY15
set_option maxRecDepth 100000
set_option maxHeartbeats 16000000
namespace Go.Proofs.YtpekbmegopfhfaaGreatDoor
open Go.ChangeShapes Go.WideShapes Go.ChangeAt Go.RowKit _root_.Go.Proofs.Tryz
theorem heldLog_any (a b:Option Addr) (n m c d k:Nat) (w:World) (h1:SRow w w.heap.size a (marks k n)) (h2:SRow w w.heap.size b (marks (k+n) m)) (hk:1<=k) (hkn:k+n+m<=100000000):
 Calls prog 63 #[.agg #[.slice a n c,.slice b m d],.int .i64 k] w fun e w'=>e=.returned (.int .i64 (k+n+m))/\Below w.heap.size w w':=by
 have hb:Below w.heap.size w (w.alloc (.cells #[.slice a n c,.slice b m d] 40)):=(Below.refl _ _).alloc (Nat.le_refl _) _;have hnn:¬((k:Int)+n<0):=by omega
 have hnn2:¬((k:Int)+n+m<0):=by omega
 go_enter func63,ntmps63;go_wp2_with fail;refine(heldS_any a n c k w.heap.size _ (h1.below hb) (by simp) hk (by omega)).mono ?_;rintro e w1 ⟨rfl,hb1⟩;have hB1:=hb.trans (hb1.mono (by simp));have hbox0:w1.cell? ⟨w.heap.size,1,none⟩=some (.slice b m d):=by rw[hb1.cell (p:=⟨w.heap.size,1,none⟩) (by simp)];simp
 have hcall:=heldS_any b m d (k+n) w.heap.size w1 (h2.below hB1) hB1.size (by omega) (by omega);rw[show((k+n:Nat):Int)=(k:Int)+n from by omega] at hcall;go_wp2_with fail;refine hcall.mono ?_;rintro e w2 ⟨rfl,hb2⟩;go_wp2;go_ret;exact⟨rfl,hB1.trans (hb2.mono hB1.size)⟩
def LBox (w:World) (b:Nat) (u v:Value):Prop:=w.cell? ⟨b,0,none⟩=some u/\w.cell? ⟨b,1,none⟩=some v/\b<w.heap.size
theorem copyOfLog_any (a b:Option Addr) (c d:Nat) (ss tt:List ByteArray) (w:World) (hr:SRow w w.heap.size a ss) (hq:SRow w w.heap.size b tt) (hl:ss.length<=1048576) (hl':tt.length<=1048576):
 Calls prog 60 #[.agg #[.slice a ss.length c,.slice b tt.length d]] w fun e w'=>∃x cx y cy,e=.returned (.agg #[.slice x ss.length cx,.slice y tt.length cy])/\
  w'.ownsRow w.heap.size 9 1 (.slice x ss.length cx) ss.length (ss.map Value.string)/\w'.ownsRow w.heap.size 9 1 (.slice y tt.length cy) tt.length (tt.map Value.string)/\(∀g,(Value.slice x ss.length cx).ownBlock=some g->(Value.slice y tt.length cy).ownBlock≠some g)/\Below w.heap.size w w':=by
 obtain⟨W,hW⟩:∃W,W=(w.alloc (.cells #[.slice a ss.length c,.slice b tt.length d] 40)).alloc (.cells #[.slice none 0 0,.slice none 0 0] 40):=⟨_,rfl⟩;have hbW:=(al2 hW).1;have x0:=(al2 hW).2.2.1;have x1:CellsAt W (w.heap.size+1) [.slice none 0 0,.slice none 0 0]:=by
  have h1:=CellsAt.new (w.alloc (.cells #[.slice a ss.length c,.slice b tt.length d] 40)) [.slice none 0 0,.slice none 0 0] 40;rw[World.size_alloc] at h1;rw[hW];exact h1
 have hzW:=(al2 hW).2.1;have HW:Hid _:=hW;have HX0:Hid (CellsAt W _ _):=(al2 hW).2.2.1;have HX1:Hid (CellsAt W (w.heap.size+1) [.slice none 0 0,.slice none 0 0]):=x1;have HQ:Hid (SRow w w.heap.size a ss):=hr;have HM:Hid (SRow w w.heap.size b tt):=hq;obtain⟨a0,a1⟩:=CellsAt.c2 x0 0 1;clear hW x0 x1 hr hq;go_enter func60,ntmps60;go_upto_region 1 with fail;rw[←HW.out];clear HW;go_region_with (first
  |(go_at_call 98;refine(cloneStr_any a c ss W.drew (SRow.below' (w:=w) HQ.out hbW.drew) hl).mono ?_;rintro e w1 ⟨x,cx,rfl,ho1,hb1⟩;have hB1:Below W.heap.size W w1:=(Below.refl W.heap.size W).drew.trans hb1;obtain⟨b1,_⟩:=CellsAt.below HX0.out hB1 1 _ rfl)
  |(go_at_call 98;refine(cloneStr_any b d tt w1 (SRow.below' (w:=w) HM.out (hbW.trans (hB1.mono hbW.size))) hl').mono ?_;rintro e w2 ⟨y,cy,rfl,ho2,hb2⟩;have hB2:Below W.heap.size W w2:=hB1.trans (hb2.mono hB1.size);obtain⟨d0,e0⟩:=CellsAt.below HX1.out hB2 0 _ rfl;obtain⟨d1,e1⟩:=CellsAt.below HX1.out hB2 1 _ rfl))
 all_goals
  have hox:w2.ownsRow (w.heap.size+2) 9 1 (.slice x ss.length cx) ss.length (ss.map Value.string):=(own_keep ho1 hb2).mono (by simp;omega);have hoy:w2.ownsRow (w.heap.size+2) 9 1 (.slice y tt.length cy) tt.length (tt.map Value.string):=ho2.mono (by have:=hB1.size;omega)
  have hxy:∀g,(Value.slice x ss.length cx).ownBlock=some g->(Value.slice y tt.length cy).ownBlock≠some g:=fun g h1 h2=>by have q1:=(own_lt ho1 h1).2;have q2:=(own_lt ho2 h2).1;omega
  have HO:Hid _:=And.intro hox (And.intro hoy (And.intro hxy (hbW.trans (hB2.mono hbW.size))));clear hox hoy ho1 ho2 hb1 hb2 hB1 hB2 HX0 HX1 HQ HM a0 a1 hbW hxy;go_wp2;refine bodyPost_ret (v:=.agg #[.slice x ss.length cx,.slice y tt.length cy]) (by simp[results,results60,go_sem,d0,d1]) rfl ⟨x,cx,y,cy,rfl,?_,?_,HO.out.2.2.1,?_⟩
  ·refine World.ownsRow.mono ?_ (show w.heap.size<=w.heap.size+2 by omega)
   iterate 2 (refine ownsRow_setCell_below ?_ (by simp<;>omega) _)
   exact HO.out.1
  ·refine World.ownsRow.mono ?_ (show w.heap.size<=w.heap.size+2 by omega)
   iterate 2 (refine ownsRow_setCell_below ?_ (by simp<;>omega) _)
   exact HO.out.2.1
  ·iterate 2 (refine Below.setCell ?_ (by simp) _)
   exact HO.out.2.2.2
def ORow (w:World) (base:Nat) (v:Value) (ss:List ByteArray):Prop:=
 (v=.slice none 0 0/\ss=[])∨∃g off cap,v=.slice (some ⟨g,off,none⟩) ss.length cap/\base<=g/\g<w.heap.size/\ss.length<=cap/\cap<=maxLen/\
   (∀j,j<cap->(w.cell? ⟨g,off+j,none⟩).isSome=true/\w.frozen? ⟨g,off+j,none⟩=false)/\
   ∀i s,ss[i]?=some s->w.cell? ⟨g,off+i,none⟩=some (.string s)
theorem ORow.nil (w:World) (base:Nat):ORow w base (.slice none 0 0) []:=.inl ⟨rfl,rfl⟩
theorem ORow.own {w:World} {base:Nat} {v:Value} {ss:List ByteArray} (h:w.ownsRow base 9 1 v ss.length (ss.map Value.string)):ORow w base v ss:=by
 rcases h.2 with⟨rfl,hn⟩|⟨g,cap,cur,rfl,hb,hg,hc,hm,hs,ht⟩
 ·exact .inl ⟨rfl,List.eq_nil_of_length_eq_zero hn⟩
 ·have hl:g<w.heap.size:=(Array.getElem?_eq_some_iff.1 hg).1
  have hcell:∀j,w.cell? ⟨g,0+j,none⟩=cur[j]?:=fun j=>by
   rw[Nat.zero_add];simp[World.cell?,hg]
  refine .inr ⟨g,0,cap,rfl,hb,hl,hc,hm,fun j hj=>⟨?_,?_⟩,fun i s hs=> ?_⟩
  ·rw[hcell,Array.getElem?_eq_getElem (by omega)]
   rfl
  ·simp[World.frozen?,hg]
  ·have hi:=(List.getElem?_eq_some_iff.1 hs).1
   rw[hcell];have h1:(cur.toList.take (ss.length *1))[i]?=some (.string s):=by rw[ht];simp[hs]
   rw[List.getElem?_take_of_lt (by omega)] at h1;simpa using h1
theorem ORow.row {w:World} {base:Nat} {v:Value} {ss:List ByteArray} (h:ORow w base v ss):∃a cap,v=.slice a ss.length cap/\SRow w w.heap.size a ss:=by
 rcases h with⟨rfl,rfl⟩|⟨g,off,cap,rfl,h1,h2,_,_,_,hc⟩
 ·exact⟨none,0,rfl,.inl rfl⟩
 ·exact⟨_,cap,rfl,.inr ⟨g,off,rfl,h2,hc⟩⟩
theorem ORow.stays {w w':World} {base:Nat} {v:Value} {ss:List ByteArray} (h:ORow w base v ss) (hz:w.heap.size<=w'.heap.size) (hb:∀g,sBlk v=some g->w'.heap[g]?=w.heap[g]?):ORow w' base v ss:=by
 rcases h with h|⟨g,off,cap,rfl,h1,hg,h2,h3,h4,hc⟩
 ·exact .inl h
 ·exact .inr ⟨g,off,cap,rfl,h1,by omega,h2,h3,fun j hj=>⟨by rw[World.cell?_of_block (hb g rfl)];exact(h4 j hj).1,by rw[World.frozen?_of_block (hb g rfl)];exact(h4 j hj).2⟩,fun i s hs=>(World.cell?_of_block (hb g rfl)).trans (hc i s hs)⟩
theorem ORow.blk {w:World} {base:Nat} {v:Value} {ss:List ByteArray} (h:ORow w base v ss) {g:Nat} (hg:sBlk v=some g):base<=g/\g<w.heap.size:=by
 rcases h with⟨rfl,_⟩|⟨g',off,cap,rfl,h1,h2,_⟩
 ·cases hg
 ·cases hg;exact⟨h1,h2⟩
theorem ORow.below {w w':World} {base:Nat} {v:Value} {ss:List ByteArray} (h:ORow w base v ss) (hb:Below w.heap.size w w'):ORow w' base v ss:=
 h.stays hb.size (fun g e=>hb.block g (h.blk e).2)
theorem ORow.turn {w w':World} {V:List Nat} {base:Nat} {v:Value} {ss:List ByteArray} (h:ORow w base v ss) (hb:Tn V w w') (hV:∀g,sBlk v=some g->g∉V):ORow w' base v ss:=
 h.stays hb.size (fun g e=>hb.block g (h.blk e).2 (hV g e))
theorem ORow.mono {w:World} {base base':Nat} {v:Value} {ss:List ByteArray} (h:ORow w base v ss) (hb:base'<=base):ORow w base' v ss:=by
 rcases h with h|⟨g,off,cap,rfl,h1,rest⟩
 ·exact .inl h
 ·exact .inr ⟨g,off,cap,rfl,by omega,rest⟩
theorem heldRound_any (ph top at_ ro:Int) (a b:Option Addr) (n m c d k:Nat) (w:World) (h1:SRow w w.heap.size a (marks k n)) (h2:SRow w w.heap.size b (marks (k+n) m)) (hk:1<=k) (hkn:k+n+m<=100000000):
 Calls prog 64 #[.agg #[.int .i64 ph,.slice a n c,.slice b m d,.int .i64 top,.int .i64 at_,.int .i64 ro],.int .i64 k] w fun e w'=>e=.returned (.int .i64 (k+n+m))/\Below w.heap.size w w':=by
 have hb:Below w.heap.size w (w.alloc (.cells #[.int .i64 ph,.slice a n c,.slice b m d,.int .i64 top,.int .i64 at_,.int .i64 ro] 42)):=(Below.refl _ _).alloc (Nat.le_refl _) _;have hnn:¬((k:Int)+n<0):=by omega
 have hnn2:¬((k:Int)+n+m<0):=by omega
 go_enter func64,ntmps64;go_wp2_with fail;refine(heldS_any a n c k w.heap.size _ (h1.below hb) (by simp) hk (by omega)).mono ?_;rintro e w1 ⟨rfl,hb1⟩;have hB1:=hb.trans (hb1.mono (by simp));have hbox0:w1.cell? ⟨w.heap.size,2,none⟩=some (.slice b m d):=by rw[hb1.cell (p:=⟨w.heap.size,2,none⟩) (by simp)];simp
 have hcall:=heldS_any b m d (k+n) w.heap.size w1 (h2.below hB1) hB1.size (by omega) (by omega);rw[show((k+n:Nat):Int)=(k:Int)+n from by omega] at hcall;go_wp2_with fail;refine hcall.mono ?_;rintro e w2 ⟨rfl,hb2⟩;go_wp2;go_ret;exact⟨rfl,hB1.trans (hb2.mono hB1.size)⟩
theorem ORow.set {w:World} {base g off n cap:Nat} {ss:List ByteArray} (h:ORow w base (.slice (some ⟨g,off,none⟩) n cap) ss) {j:Nat} (hj:j<ss.length) (t:ByteArray):ORow (w.setCell ⟨g,off+j,none⟩ (.string t)) base (.slice (some ⟨g,off,none⟩) n cap) (ss.set j t):=by
 rcases h with⟨e,_⟩|⟨g',off',cap',e,h1,h2,h3,h4,h5,h6⟩
 ·cases e
 ·cases e
  refine .inr ⟨g,off,cap,by rw[List.length_set],h1,by simpa using h2,by rw[List.length_set];exact h3,h4,fun i hi=>⟨?_,?_⟩,fun i s hs=> ?_⟩
  ·exact(Alive.setCell w g (off+j) (.string t) g (off+i) (h5 i hi).1).1
  ·exact(Alive.setCell w g (off+j) (.string t) g (off+i) (h5 i hi).1).2 (h5 i hi).2
  ·by_cases hij:i=j
   ·subst hij
    rw[List.getElem?_set_self hj] at hs;cases hs;exact World.cell?_setCell_same' _ _ _ (h5 i (by omega)).1
   ·rw[List.getElem?_set_ne (fun e=>hij e.symm)] at hs
    exact(World.cell?_setCell_other w _ _ _ (by simp<;>omega)).trans (h6 i s hs)
theorem marks_setB (k i:Nat) (xs:List ByteArray) (h:i<xs.length):(marks k i++xs.drop i).set i (mkT (k+i))=marks k (i+1)++xs.drop (i+1):=by
 have hl:(marks k i).length=i:=marks_length k i;rw[List.set_append_right _ _ (by omega),hl,Nat.sub_self,List.drop_eq_getElem_cons h,List.set_cons_zero];simp[marks,List.range_succ]
theorem markO_any (base k:Nat) (V:Value) (ss:List ByteArray) (w:World) (h:ORow w base V ss) (hk:1<=k) (hkn:k+ss.length<=100000000):
 Calls prog 15 #[V,.int .i64 k] w fun e w'=>e=.returned (.int .i64 (k+ss.length:Nat))/\ORow w' base V (marks k ss.length)/\w.grownBy w' (sBlk V):=by
 obtain⟨a,cap,rfl,_⟩:=h.row;have HO:Hid (ORow w base (.slice a ss.length cap) ss):=h;obtain⟨n,hn⟩:∃n,n=ss.length:=⟨_,rfl⟩;rw[←hn] at HO hkn ⊢;have Hn:Hid (n=ss.length):=hn;clear h hn;go_enter func15,ntmps15;go_wp2
 go_loopw [1,5] (fun v i wr=>∃(j:Nat),j<=n/\i=.int .i64 j/\v=.int .i64 (k+j)/\Hid (ORow wr base (.slice a n cap) (marks k j++ss.drop j)/\w.grownBy wr (sBlk (.slice a n cap)))) (fun _ i _=>n -(intOf i).toNat)
 case atStart=>exact⟨0,Nat.zero_le _,rfl,by simp,by simpa [marks] using HO.out,grown_refl _ _⟩
 case round=>
  obtain⟨j,hj,rfl,rfl,HI⟩:=hrel;by_cases hlt:j<n
  ·have hll:(marks k j++ss.drop j).length=n:=by rw[List.length_append,marks_length,List.length_drop];have:=Hn.out;omega
   obtain⟨g,off,rfl,hsome,hfr⟩:∃g off,a=some ⟨g,off,none⟩/\(∀X,Below wr.heap.size wr X->(X.cell? ⟨g,off+j,none⟩).isSome=true)/\(∀X,Below wr.heap.size wr X->X.frozen? ⟨g,off+j,none⟩=false):=by
    rcases HI.out.1 with⟨e,e2⟩|⟨g,off,cap',e,h1,h2,h3,h4,h5,h6⟩
    ·rw[e2] at hll;simp at hll;omega
    ·cases e
     refine⟨g,off,rfl,fun X hX=> ?_,fun X hX=> ?_⟩
     ·rw[hX.cell (p:=⟨g,off+j,none⟩) h2];exact(h5 j (by omega)).1
     ·rw[hX.frozen (p:=⟨g,off+j,none⟩) h2];exact(h5 j (by omega)).2
   have hcall:=markText_any (k+j) wr (by omega) (by omega);rw[show((k+j:Nat):Int)=(k:Int)+j from by omega] at hcall;have hlt':(j:Int)<n:=by omega
   have HS:Hid _:=And.intro hsome hfr;clear hsome hfr;go_wp2_with fail;refine hcall.mono ?_;rintro e w2 ⟨rfl,hb2⟩;obtain⟨v0,hcc⟩:=Option.isSome_iff_exists.1 (HS.out.1 w2 hb2);have hff:=HS.out.2 w2 hb2;have hst:=(HI.out.1.below hb2).set (j:=j) (by rw[hll];exact hlt) (mkT (k+j));rw[marks_setB k j ss (by have:=Hn.out;omega)] at hst
   have hg2:=grown_trans HI.out.2 (grown_trans (grown_below _ hb2) (grown_set w2 g (off+j) (.string (mkT (k+j)))));have HH:Hid _:=And.intro hst hg2;clear hst hg2 HI hcall HS;go_wp2;exact⟨⟨j+1,by omega,by go_num,by go_num,HH.out.1,HH.out.2⟩,by simp[intOf];omega⟩
  ·obtain rfl:j=n:=by omega
   have hE:=HI.out.1;rw[List.drop_of_length_le (by have:=Hn.out;omega),List.append_nil] at hE;have HE:Hid (ORow wr base (.slice a j cap) (marks k j)):=hE;clear hE;go_wp2;go_ret;exact⟨by go_num,HE.out,HI.out.2⟩
theorem markRoundO (ph top at_ ro:Int) (base k:Nat) (Q M:Value) (qs ms:List ByteArray) (w:World) (h1:ORow w base Q qs) (h2:ORow w base M ms) (hne:∀g,sBlk Q=some g->sBlk M≠some g) (hk:1<=k) (hkn:k+qs.length+ms.length<=100000000):
 Calls prog 62 #[.agg #[.int .i64 ph,Q,M,.int .i64 top,.int .i64 at_,.int .i64 ro],.int .i64 k] w fun e w'=>e=.returned (.int .i64 (k+qs.length+ms.length:Nat))/\ORow w' base Q (marks k qs.length)/\ORow w' base M (marks (k+qs.length) ms.length)/\Tn ((sBlk Q).toList++(sBlk M).toList) w w':=by
 obtain⟨qa,qc,rfl,_⟩:=h1.row;obtain⟨ma,mc,rfl,_⟩:=h2.row;have hb:Below w.heap.size w (w.alloc (.cells #[.int .i64 ph,.slice qa qs.length qc,.slice ma ms.length mc,.int .i64 top,.int .i64 at_,.int .i64 ro] 42)):=(Below.refl _ _).alloc (Nat.le_refl _) _
 have hz:CellsAt (w.alloc (.cells #[.int .i64 ph,.slice qa qs.length qc,.slice ma ms.length mc,.int .i64 top,.int .i64 at_,.int .i64 ro] 42)) w.heap.size [.int .i64 ph,.slice qa qs.length qc,.slice ma ms.length mc,.int .i64 top,.int .i64 at_,.int .i64 ro]:=CellsAt.new w _ _
 obtain⟨W,hW⟩:∃W,W=w.alloc (.cells #[.int .i64 ph,.slice qa qs.length qc,.slice ma ms.length mc,.int .i64 top,.int .i64 at_,.int .i64 ro] 42):=⟨_,rfl⟩;rw[←hW] at hb hz;have HZ:Hid (CellsAt W _ _):=(al1 hW).2.2;obtain⟨z1,_⟩:=hz 1 _ rfl;have HR:Hid (ORow W base (.slice qa qs.length qc) qs/\ORow W base (.slice ma ms.length mc) ms):=⟨h1.below hb,h2.below hb⟩
 have hlt:Hid ((∀g,sBlk (.slice qa qs.length qc)=some g->g<w.heap.size)/\(∀g,sBlk (.slice ma ms.length mc)=some g->g<w.heap.size)):=⟨fun g hg=>(h1.blk hg).2,fun g hg=>(h2.blk hg).2⟩;have HN:Hid (∀g,sBlk (.slice qa qs.length qc)=some g->sBlk (.slice ma ms.length mc)≠some g):=hne;have HW:Hid _:=hW;have HB:Hid (Below w.heap.size w W):=hb;clear h1 h2 hne hW hz hb;go_enter func62,ntmps62
 go_upto_region 1 with fail;rw[←HW.out];clear HW;go_wp2_with fail;refine(markO_any base k _ qs W HR.out.1 hk (by omega)).mono ?_;rintro e w1 ⟨rfl,ho1,hg1⟩;have hwz:w.heap.size<W.heap.size:=CellsAt.lt HZ.out
 have z1':CellsAt w1 w.heap.size [.int .i64 ph,.slice qa qs.length qc,.slice ma ms.length mc,.int .i64 top,.int .i64 at_,.int .i64 ro]:=CellsAt.same HZ.out (hg1.block _ hwz (fun e=>by have:=hlt.out.1 _ e.symm;omega));have hm1:ORow w1 base (.slice ma ms.length mc) ms:=HR.out.2.stays hg1.size (fun g hg=>hg1.block g (HR.out.2.blk hg).2 (fun e=>HN.out g e.symm hg));obtain⟨y2,_⟩:=z1' 2 _ rfl
 have HM1:Hid (ORow w1 base (.slice ma ms.length mc) ms):=hm1;have HQ1:Hid (ORow w1 base (.slice qa qs.length qc) (marks k qs.length)/\W.grownBy w1 (sBlk (.slice qa qs.length qc))):=⟨ho1,hg1⟩;clear z1 z1' hm1 ho1 hg1;go_wp2_with fail;refine(markO_any base (k+qs.length) _ ms w1 HM1.out (by omega) (by omega)).mono ?_;rintro e w2 ⟨rfl,ho2,hg2⟩
 have HQ2:Hid (ORow w2 base (.slice qa qs.length qc) (marks k qs.length)):=HQ1.out.1.stays hg2.size (fun g hg=>hg2.block g (HQ1.out.1.blk hg).2 (fun e=>HN.out g hg e.symm))
 have HT:Hid (Tn ((sBlk (.slice qa qs.length qc)).toList++(sBlk (.slice ma ms.length mc)).toList) w w2):=((Tn.of HB.out).trans ((tn_grown HQ1.out.2).mono (by simp;exact fun b h=> .inl h))).trans ((tn_grown hg2).mono (by simp;exact fun b h=> .inr h));have HM2:Hid (ORow w2 base (.slice ma ms.length mc) (marks (k+qs.length) ms.length)):=ho2;clear y2 ho2 hg2;go_wp2;go_ret
 exact⟨rfl,HQ2.out,HM2.out,HT.out⟩
theorem SAns.turn {w w':World} {base:Nat} {T P L:Value} {rs:List Value} {ks:List Kd} {ps:List Pd} {ls:List Ld} (h:SAns w base T P L rs ks ps ls) {V:List Nat} (ht:Tn V w w') (hV:∀b∈V,b<base):SAns w' base T P L rs ks ps ls:=by
 have hs:∀{e:TypeId} {size:Nat} {v:Value} {n:Nat} {xs:List Value},w.ownsRow base e size v n xs->w'.ownsRow base e size v n xs:=fun ho=>own_same ho (fun g hg=>ht.block g (own_lt ho hg).2 (fun e=>by have:=hV g e;have:=(own_lt ho hg).1;omega));exact⟨h.len,hs h.things,fun i k r hk hr=>hs (h.refs i k r hk hr),hs h.pins,hs h.leases,h.nd⟩
theorem SAns.mono {w:World} {base base':Nat} {T P L:Value} {rs:List Value} {ks:List Kd} {ps:List Pd} {ls:List Ld} (h:SAns w base T P L rs ks ps ls) (hb:base'<=base):SAns w base' T P L rs ks ps ls:=
 ⟨h.len,h.things.mono hb,fun i k r hk hr=>(h.refs i k r hk hr).mono hb,h.pins.mono hb,h.leases.mono hb,h.nd⟩
theorem SAns.lo {w:World} {base:Nat} {T P L:Value} {rs:List Value} {ks:List Kd} {ps:List Pd} {ls:List Ld} (h:SAns w base T P L rs ks ps ls):∀g∈blks T P L rs,base<=g:=by
 intro g hg;unfold blks at hg;simp only[List.mem_append,Option.mem_toList,List.mem_filterMap] at hg;rcases hg with hg|hg|hg|⟨r,hr,hg⟩
 ·exact(own_lt h.things hg).1
 ·exact(own_lt h.pins hg).1
 ·exact(own_lt h.leases hg).1
 ·obtain⟨i,hi⟩:=List.getElem?_of_mem hr
  have hl:=(List.getElem?_eq_some_iff.1 hi).1;rw[h.len] at hl;exact(own_lt (h.refs i _ r (List.getElem?_eq_getElem hl) hi) hg).1
theorem SAns.lts {w:World} {base:Nat} {T P L:Value} {rs:List Value} {ks:List Kd} {ps:List Pd} {ls:List Ld} (h:SAns w base T P L rs ks ps ls):∀g∈blks T P L rs,g<w.heap.size:=by
 intro g hg;unfold blks at hg;simp only[List.mem_append,Option.mem_toList,List.mem_filterMap] at hg;rcases hg with hg|hg|hg|⟨r,hr,hg⟩
 ·exact(own_lt h.things hg).2
 ·exact(own_lt h.pins hg).2
 ·exact(own_lt h.leases hg).2
 ·obtain⟨i,hi⟩:=List.getElem?_of_mem hr
  have hl:=(List.getElem?_eq_some_iff.1 hi).1;rw[h.len] at hl;exact(own_lt (h.refs i _ r (List.getElem?_eq_getElem hl) hi) hg).2
theorem SAns.apart {w w':World} {base:Nat} {T P L:Value} {rs:List Value} {ks:List Kd} {ps:List Pd} {ls:List Ld} (h:SAns w base T P L rs ks ps ls) {V:List Nat} (ht:Tn V w w') (hV:∀b∈V,b∉blks T P L rs):SAns w' base T P L rs ks ps ls:=by
 have hmem:∀g,g∈blks T P L rs->g<w.heap.size->w'.heap[g]?=w.heap[g]?:=fun g hg hl=>ht.block g hl (fun e=>hV g e hg)
 refine⟨h.len,own_same h.things (fun g hg=>hmem g (by unfold blks;simp[hg]) (own_lt h.things hg).2),fun i k r hk hr=>own_same (h.refs i k r hk hr) (fun g hg=>hmem g (by unfold blks;simp only[List.mem_append,List.mem_filterMap];exact .inr (.inr (.inr ⟨r,List.mem_of_getElem? hr,hg⟩))) (own_lt (h.refs i k r hk hr) hg).2),own_same h.pins (fun g hg=>hmem g (by unfold blks;simp[hg]) (own_lt h.pins hg).2),own_same h.leases (fun g hg=>hmem g (by unfold blks;simp[hg]) (own_lt h.leases hg).2),h.nd⟩
theorem SAns.rows {w:World} {base:Nat} {T P L:Value} {rs:List Value} {ks:List Kd} {ps:List Pd} {ls:List Ld} (h:SAns w base T P L rs ks ps ls):∃ta tc pa pc la lc,T=.slice ta ks.length tc/\P=.slice pa ps.length pc/\L=.slice la ls.length lc/\SRows w w.heap.size ta pa la ks ps ls:=by
 obtain⟨ta,tc,rfl⟩:=own_val h.things;obtain⟨pa,pc,rfl⟩:=own_val h.pins;obtain⟨la,lc,rfl⟩:=own_val h.leases;refine⟨ta,tc,pa,pc,la,lc,rfl,rfl,rfl,⟨?_,PRow.own h.pins,LRow.own h.leases⟩⟩;rcases h.things.2 with⟨_,hn⟩|⟨g,cap,cur,e,hb,hg,_⟩
 ·exact .inl (List.length_eq_zero_iff.1 hn)
 ·cases e
  refine .inr ⟨g,0,rfl,(Array.getElem?_eq_some_iff.1 hg).1,fun i k hk=> ?_⟩;have hi:=(List.getElem?_eq_some_iff.1 hk).1;have hlen:=h.len;have hr:rs[i]?=some rs[i]:=List.getElem?_eq_getElem (by omega);have hz:(ks.zip rs)[i]?=some (k,rs[i]):=List.getElem?_zip_eq_some.2 ⟨hk,hr⟩;have hzl:(ks.zip rs).length=ks.length:=by rw[List.length_zip];omega
  have hc:∀j,j<4->w.cell? ⟨g,i *4+j,none⟩=(kC (k,rs[i]))[j]?:=fun j hj=>(h.things.cellAt (i *4+j) (by omega)).trans (row_get kC_len4 hz hj);have ho:=h.refs i k _ hk hr;obtain⟨ra,rc,hra⟩:=own_val ho;rw[Nat.zero_add];refine⟨by simpa [kC] using hc 0 (by decide),by simpa [kC] using hc 1 (by decide),by simpa [kC] using hc 2 (by decide),ra,rc,?_,?_⟩
  ·have:=hc 3 (by decide)
   rw[←hra];simpa [kC] using this
  ·rw[hra] at ho
   rcases ho.2 with⟨_,hn⟩|⟨g2,cap2,cur2,e2,_⟩
   ·exact .inl (List.eq_nil_of_length_eq_zero hn)
   ·cases e2
    exact SRow.own ho
theorem refsN_le {ks:List Kd} (h:∀k∈ks,k.refs.length<=30):refsN ks<=30 *ks.length:=by
 induction ks with
 |nil=>simp[refsN]
 |cons x xs ih=>
  rw[refsN_cons];have h1:=h x (by simp);have h2:=ih (fun k hk=>h k (by simp[hk]));simp only[List.length_cons];omega
def vBl (S U T P L Q M:Value) (rs:List Value):List Nat:=((sBlk S).toList++(sBlk U).toList)++(blks T P L rs++((sBlk Q).toList++(sBlk M).toList))
structure VAns (w:World) (base:Nat) (S U T P L Q M:Value) (rs:List Value) (v:Vd):Prop where
 s:ORow w base S v.ss
 u:ORow w base U v.tt
 st:SAns w base T P L rs v.ks v.ps v.ls
 q:ORow w base Q v.qs
 m:ORow w base M v.ms
 nd:(vBl S U T P L Q M rs).Nodup
theorem VAns.lo {w:World} {base:Nat} {S U T P L Q M:Value} {rs:List Value} {v:Vd} (h:VAns w base S U T P L Q M rs v):∀g∈vBl S U T P L Q M rs,base<=g:=by
 intro g hg;unfold vBl at hg;simp only[List.mem_append,Option.mem_toList] at hg;rcases hg with(hg|hg)|hg|hg|hg
 ·exact(h.s.blk hg).1
 ·exact(h.u.blk hg).1
 ·exact h.st.lo g hg
 ·exact(h.q.blk hg).1
 ·exact(h.m.blk hg).1
theorem VAns.lts {w:World} {base:Nat} {S U T P L Q M:Value} {rs:List Value} {v:Vd} (h:VAns w base S U T P L Q M rs v):∀g∈vBl S U T P L Q M rs,g<w.heap.size:=by
 intro g hg;unfold vBl at hg;simp only[List.mem_append,Option.mem_toList] at hg;rcases hg with(hg|hg)|hg|hg|hg
 ·exact(h.s.blk hg).2
 ·exact(h.u.blk hg).2
 ·exact h.st.lts g hg
 ·exact(h.q.blk hg).2
 ·exact(h.m.blk hg).2
theorem VAns.stays {w w':World} {base:Nat} {S U T P L Q M:Value} {rs:List Value} {v:Vd} (h:VAns w base S U T P L Q M rs v) {V:List Nat} (ht:Tn V w w') (hV:∀b∈V,b∉vBl S U T P L Q M rs):VAns w' base S U T P L Q M rs v:=by
 have e:∀b∈vBl S U T P L Q M rs,b∉V:=fun b hb hv=>hV b hv hb;unfold vBl at e;simp only[List.mem_append,Option.mem_toList] at e;exact⟨h.s.turn ht (fun g hg=>e g (.inl (.inl hg))),h.u.turn ht (fun g hg=>e g (.inl (.inr hg))),h.st.apart ht (fun b hb hx=>e b (.inr (.inl hx)) hb),h.q.turn ht (fun g hg=>e g (.inr (.inr (.inl hg)))),h.m.turn ht (fun g hg=>e g (.inr (.inr (.inr hg)))),h.nd⟩
theorem VAns.below {w w':World} {base:Nat} {S U T P L Q M:Value} {rs:List Value} {v:Vd} (h:VAns w base S U T P L Q M rs v) (hb:Below w.heap.size w w'):VAns w' base S U T P L Q M rs v:=
 h.stays (V:=[]) (Tn.of hb) (by simp)
theorem VAns.mono {w:World} {base base':Nat} {S U T P L Q M:Value} {rs:List Value} {v:Vd} (h:VAns w base S U T P L Q M rs v) (hb:base'<=base):VAns w base' S U T P L Q M rs v:=
 ⟨h.s.mono hb,h.u.mono hb,h.st.mono hb,h.q.mono hb,h.m.mono hb,h.nd⟩
theorem VAns.of {w:World} {base n1 n2:Nat} {S U T P L Q M:Value} {rs:List Value} {v:Vd} (hs:ORow w base S v.ss) (hu:ORow w base U v.tt) (hSU:∀g,sBlk S=some g->sBlk U≠some g) (h1:∀g,sBlk S=some g∨sBlk U=some g->g<n1)
 (hst:SAns w n1 T P L rs v.ks v.ps v.ls) (hb:base<=n1) (h2:∀g∈blks T P L rs,g<n2) (hq:ORow w base Q v.qs) (hm:ORow w base M v.ms) (h3:∀g,sBlk Q=some g∨sBlk M=some g->n2<=g) (h12:n1<=n2) (hQM:∀g,sBlk Q=some g->sBlk M≠some g):VAns w base S U T P L Q M rs v:=by
 refine⟨hs,hu,hst.mono hb,hq,hm,?_⟩;have hn:=hst.nd;rw[blks_eq] at hn;have hlo:=hst.lo;unfold vBl;generalize blks T P L rs=B at *
 generalize sBlk S=s at *
 generalize sBlk U=u at *
 generalize sBlk Q=q at *
 generalize sBlk M=m at *
 have one:∀o:Option Nat,o.toList.Nodup:=fun o=>by cases o<;>simp
 simp only[List.nodup_append,List.mem_append,Option.mem_toList];refine⟨⟨one _,one _,fun a ha b hb e=>hSU a ha (e▸hb)⟩,⟨hn,⟨one _,one _,fun a ha b hb e=>hQM a ha (e▸hb)⟩,fun a ha b hb e=> ?_⟩,fun a ha b hb e=> ?_⟩
 ·have q1:=h2 a ha
  have q2:=h3 b hb;omega
 ·have q1:=h1 a ha
  rcases hb with hb|hb
  ·have:=hlo b hb;omega
  ·have:=h3 b hb;omega
def markV (k:Nat) (v:Vd):Vd:=
 {v with
  ss:=marks k v.ss.length
  tt:=marks (k+v.ss.length) v.tt.length
  ks:=markK (k+v.ss.length+v.tt.length) v.ks
  ps:=markP (k+v.ss.length+v.tt.length+v.ks.length *3+refsN v.ks) v.ps
  ls:=markL (k+v.ss.length+v.tt.length+v.ks.length *3+refsN v.ks+v.ps.length *2) v.ls
  qs:=marks (k+v.ss.length+v.tt.length+cntS v.ks v.ps v.ls) v.qs.length
  ms:=marks (k+v.ss.length+v.tt.length+cntS v.ks v.ps v.ls+v.qs.length) v.ms.length}
def cntV (v:Vd):Nat:=v.ss.length+v.tt.length+cntS v.ks v.ps v.ls+v.qs.length+v.ms.length
theorem markLogO (base k:Nat) (S U:Value) (ss tt:List ByteArray) (w:World) (h1:ORow w base S ss) (h2:ORow w base U tt) (hne:∀g,sBlk S=some g->sBlk U≠some g) (hk:1<=k) (hkn:k+ss.length+tt.length<=100000000):
 Calls prog 24 #[.agg #[S,U],.int .i64 k] w fun e w'=>e=.returned (.int .i64 (k+ss.length+tt.length:Nat))/\ORow w' base S (marks k ss.length)/\ORow w' base U (marks (k+ss.length) tt.length)/\Tn ((sBlk S).toList++(sBlk U).toList) w w':=by
 obtain⟨qa,qc,rfl,_⟩:=h1.row;obtain⟨ma,mc,rfl,_⟩:=h2.row;obtain⟨W,hW⟩:∃W,W=w.alloc (.cells #[.slice qa ss.length qc,.slice ma tt.length mc] 40):=⟨_,rfl⟩;have hb:=(al1 hW).1;have hz:=(al1 hW).2.2;have HZ:Hid (CellsAt W _ _):=(al1 hW).2.2;obtain⟨z1,_⟩:=hz 0 _ rfl;have HR:Hid (ORow W base (.slice qa ss.length qc) ss/\ORow W base (.slice ma tt.length mc) tt):=⟨h1.below hb,h2.below hb⟩
 have hlt:Hid ((∀g,sBlk (.slice qa ss.length qc)=some g->g<w.heap.size)/\(∀g,sBlk (.slice ma tt.length mc)=some g->g<w.heap.size)):=⟨fun g hg=>(h1.blk hg).2,fun g hg=>(h2.blk hg).2⟩;have HN:Hid (∀g,sBlk (.slice qa ss.length qc)=some g->sBlk (.slice ma tt.length mc)≠some g):=hne;have HW:Hid _:=hW;have HB:Hid (Below w.heap.size w W):=hb;clear h1 h2 hne hW hz hb;go_enter func24,ntmps24
 go_upto_region 1 with fail;rw[←HW.out];clear HW;go_wp2_with fail;refine(markO_any base k _ ss W HR.out.1 hk (by omega)).mono ?_;rintro e w1 ⟨rfl,ho1,hg1⟩;have hwz:w.heap.size<W.heap.size:=CellsAt.lt HZ.out;have z1':CellsAt w1 w.heap.size [.slice qa ss.length qc,.slice ma tt.length mc]:=CellsAt.same HZ.out (hg1.block _ hwz (fun e=>by have:=hlt.out.1 _ e.symm;omega))
 have hm1:ORow w1 base (.slice ma tt.length mc) tt:=HR.out.2.stays hg1.size (fun g hg=>hg1.block g (HR.out.2.blk hg).2 (fun e=>HN.out g e.symm hg));obtain⟨y2,_⟩:=z1' 1 _ rfl;have HM1:Hid (ORow w1 base (.slice ma tt.length mc) tt):=hm1;have HQ1:Hid (ORow w1 base (.slice qa ss.length qc) (marks k ss.length)/\W.grownBy w1 (sBlk (.slice qa ss.length qc))):=⟨ho1,hg1⟩;clear z1 z1' hm1 ho1 hg1
 go_wp2_with fail;refine(markO_any base (k+ss.length) _ tt w1 HM1.out (by omega) (by omega)).mono ?_;rintro e w2 ⟨rfl,ho2,hg2⟩;have HQ2:Hid (ORow w2 base (.slice qa ss.length qc) (marks k ss.length)):=HQ1.out.1.stays hg2.size (fun g hg=>hg2.block g (HQ1.out.1.blk hg).2 (fun e=>HN.out g hg e.symm))
 have HT:Hid (Tn ((sBlk (.slice qa ss.length qc)).toList++(sBlk (.slice ma tt.length mc)).toList) w w2):=((Tn.of HB.out).trans ((tn_grown HQ1.out.2).mono (by simp;exact fun b h=> .inl h))).trans ((tn_grown hg2).mono (by simp;exact fun b h=> .inr h));have HM2:Hid (ORow w2 base (.slice ma tt.length mc) (marks (k+ss.length) tt.length)):=ho2;clear y2 ho2 hg2;go_wp2;go_ret
 exact⟨rfl,HQ2.out,HM2.out,HT.out⟩
theorem vnd {S U T P L Q M:Value} {rs:List Value} (h:(vBl S U T P L Q M rs).Nodup):
 (∀g,sBlk S=some g->sBlk U≠some g/\g∉blks T P L rs/\sBlk Q≠some g/\sBlk M≠some g)/\(∀g,sBlk U=some g->g∉blks T P L rs/\sBlk Q≠some g/\sBlk M≠some g)/\(∀g∈blks T P L rs,sBlk Q≠some g/\sBlk M≠some g)/\(∀g,sBlk Q=some g->sBlk M≠some g):=by
 unfold vBl at h;generalize blks T P L rs=B at *
 generalize sBlk S=s at *
 generalize sBlk U=u at *
 generalize sBlk Q=q at *
 generalize sBlk M=m at *
 simp only[List.nodup_append,List.mem_append,Option.mem_toList] at h;obtain⟨⟨_,_,h1⟩,⟨_,⟨_,_,h2⟩,h3⟩,h4⟩:=h
 refine⟨fun g hg=>⟨fun e=>h1 g hg g e rfl,fun e=>h4 g (.inl hg) g (.inl e) rfl,fun e=>h4 g (.inl hg) g (.inr (.inl e)) rfl,fun e=>h4 g (.inl hg) g (.inr (.inr e)) rfl⟩,fun g hg=>⟨fun e=>h4 g (.inr hg) g (.inl e) rfl,fun e=>h4 g (.inr hg) g (.inr (.inl e)) rfl,fun e=>h4 g (.inr hg) g (.inr (.inr e)) rfl⟩,fun g hg=>⟨fun e=>h3 g hg g (.inl e) rfl,fun e=>h3 g hg g (.inr e) rfl⟩,fun g hg e=>h2 g hg g e rfl⟩
theorem markVaultO (v:Vd) (base k:Nat) (S U T P L Q M:Value) (rs:List Value) (w:World) (h:VAns w base S U T P L Q M rs v) (hk:1<=k) (hkn:k+cntV v<=100000000):
 Calls prog 25 #[.agg #[.int .i64 v.wd,.int .i64 v.lim,S,U,.int .i64 v.sw,.int .i64 v.now,.int .i64 v.given,.int .i64 v.births,T,P,L,.int .i64 v.ph,Q,M,.int .i64 v.top,.int .i64 v.at_,.int .i64 v.ro],.int .i64 k] w fun e w'=>e=.returned (.int .i64 (k+cntV v:Nat))/\VAns w' base S U T P L Q M rs (markV k v)/\Tn (vBl S U T P L Q M rs) w w':=by
 obtain⟨sa,sc,rfl,_⟩:=h.s.row;obtain⟨ua,uc,rfl,_⟩:=h.u.row;obtain⟨ta,tc,rfl⟩:=own_val h.st.things;obtain⟨pa,pc,rfl⟩:=own_val h.st.pins;obtain⟨la,lc,rfl⟩:=own_val h.st.leases;obtain⟨qa,qc,rfl,_⟩:=h.q.row;obtain⟨ma,mc,rfl,_⟩:=h.m.row
 obtain⟨W,hW⟩:∃W,W=w.alloc (.cells #[.int .i64 v.wd,.int .i64 v.lim,.slice sa v.ss.length sc,.slice ua v.tt.length uc,.int .i64 v.sw,.int .i64 v.now,.int .i64 v.given,.int .i64 v.births,.slice ta v.ks.length tc,.slice pa v.ps.length pc,.slice la v.ls.length lc,.int .i64 v.ph,.slice qa v.qs.length qc,.slice ma v.ms.length mc,.int .i64 v.top,.int .i64 v.at_,.int .i64 v.ro] 44):=⟨_,rfl⟩
 have hb:=(al1 hW).1;have hz:=(al1 hW).2.2;have HZ:Hid (CellsAt W _ _):=(al1 hW).2.2;have HA:Hid (VAns W base (.slice sa v.ss.length sc) (.slice ua v.tt.length uc) (.slice ta v.ks.length tc) (.slice pa v.ps.length pc) (.slice la v.ls.length lc) (.slice qa v.qs.length qc) (.slice ma v.ms.length mc) rs v):=h.below hb
 have HLt:Hid (∀g∈vBl (.slice sa v.ss.length sc) (.slice ua v.tt.length uc) (.slice ta v.ks.length tc) (.slice pa v.ps.length pc) (.slice la v.ls.length lc) (.slice qa v.qs.length qc) (.slice ma v.ms.length mc) rs,g<w.heap.size):=h.lts;have HN:Hid _:=vnd h.nd
 have HNd:Hid ((vBl (.slice sa v.ss.length sc) (.slice ua v.tt.length uc) (.slice ta v.ks.length tc) (.slice pa v.ps.length pc) (.slice la v.ls.length lc) (.slice qa v.qs.length qc) (.slice ma v.ms.length mc) rs).Nodup):=h.nd;have hwz:w.heap.size<W.heap.size:=CellsAt.lt hz;obtain⟨c2,c3⟩:=CellsAt.c2 hz 2 3;have HW:Hid _:=hW;have HB:Hid (Below w.heap.size w W):=hb
 have hc0:k+v.ss.length+v.tt.length<=100000000:=by unfold cntV at hkn;omega
 have hc1:k+v.ss.length+v.tt.length+cntS v.ks v.ps v.ls<=100000000:=by unfold cntV at hkn;omega
 have hc2:k+v.ss.length+v.tt.length+cntS v.ks v.ps v.ls+v.qs.length+v.ms.length<=100000000:=by unfold cntV at hkn;omega
 have HKN:Hid (k+cntV v=k+v.ss.length+v.tt.length+cntS v.ks v.ps v.ls+v.qs.length+v.ms.length):=by show k+cntV v=_;unfold cntV;omega
 rw[HKN.out];clear h hW hz hb hkn;go_enter func25,ntmps25;go_upto_region 1 with fail;rw[←HW.out];clear HW;go_wp2_with fail;refine(markLogO base k _ _ v.ss v.tt W HA.out.s HA.out.u (fun g hg=>(HN.out.1 g hg).1) hk hc0).mono ?_;rintro e w1 ⟨rfl,hs1,hu1,ht1⟩
 have n1:∀b∈(sBlk (.slice sa v.ss.length sc)).toList++(sBlk (.slice ua v.tt.length uc)).toList,b<w.heap.size:=fun b hb=>HLt.out b (by unfold vBl;exact List.mem_append.2 (.inl hb))
 have z1:CellsAt w1 w.heap.size [.int .i64 v.wd,.int .i64 v.lim,.slice sa v.ss.length sc,.slice ua v.tt.length uc,.int .i64 v.sw,.int .i64 v.now,.int .i64 v.given,.int .i64 v.births,.slice ta v.ks.length tc,.slice pa v.ps.length pc,.slice la v.ls.length lc,.int .i64 v.ph,.slice qa v.qs.length qc,.slice ma v.ms.length mc,.int .i64 v.top,.int .i64 v.at_,.int .i64 v.ro]:=CellsAt.same HZ.out (ht1.block _ hwz (fun e=>by have:=n1 _ e;omega))
 have e1:∀b∈(sBlk (.slice sa v.ss.length sc)).toList++(sBlk (.slice ua v.tt.length uc)).toList,b∉blks (.slice ta v.ks.length tc) (.slice pa v.ps.length pc) (.slice la v.ls.length lc) rs/\sBlk (.slice qa v.qs.length qc)≠some b/\sBlk (.slice ma v.ms.length mc)≠some b:=by
  intro b hb;simp only[List.mem_append,Option.mem_toList] at hb;rcases hb with hb|hb
  ·exact(HN.out.1 b hb).2
  ·exact HN.out.2.1 b hb
 have hA1:=HA.out.st.apart ht1 (fun b hb=>(e1 b hb).1);have hq1:=HA.out.q.turn ht1 (fun g hg e=>(e1 g e).2.1 hg);have hm1:=HA.out.m.turn ht1 (fun g hg e=>(e1 g e).2.2 hg);have H1:Hid _:=And.intro hs1 (And.intro hu1 (And.intro hA1 (And.intro hq1 (And.intro hm1 ((Tn.of HB.out).trans ht1)))));have hwz1:w.heap.size<w1.heap.size:=Nat.lt_of_lt_of_le hwz ht1.size
 have HZ1:Hid (CellsAt w1 w.heap.size [.int .i64 v.wd,.int .i64 v.lim,.slice sa v.ss.length sc,.slice ua v.tt.length uc,.int .i64 v.sw,.int .i64 v.now,.int .i64 v.given,.int .i64 v.births,.slice ta v.ks.length tc,.slice pa v.ps.length pc,.slice la v.ls.length lc,.int .i64 v.ph,.slice qa v.qs.length qc,.slice ma v.ms.length mc,.int .i64 v.top,.int .i64 v.at_,.int .i64 v.ro]):=z1
 clear hs1 hu1 hA1 hq1 hm1 ht1 c2 c3 HZ HA e1 n1;obtain⟨c4,c5,c6,c7,c8,c9,c10⟩:=CellsAt.c7 z1 4 5 6 7 8 9 10;clear z1;go_wp2_with fail;refine(markStateX v.sw v.now v.given v.births base (k+v.ss.length+v.tt.length) _ _ _ rs v.ks v.ps v.ls w1 H1.out.2.2.1 (by omega) hc1).mono ?_;rintro e w2 ⟨rfl,hA2,ht2⟩
 have z2:CellsAt w2 w.heap.size [.int .i64 v.wd,.int .i64 v.lim,.slice sa v.ss.length sc,.slice ua v.tt.length uc,.int .i64 v.sw,.int .i64 v.now,.int .i64 v.given,.int .i64 v.births,.slice ta v.ks.length tc,.slice pa v.ps.length pc,.slice la v.ls.length lc,.int .i64 v.ph,.slice qa v.qs.length qc,.slice ma v.ms.length mc,.int .i64 v.top,.int .i64 v.at_,.int .i64 v.ro]:=CellsAt.same HZ1.out (ht2.block _ hwz1 (fun e=>by have:=HLt.out _ (by unfold vBl;exact List.mem_append.2 (.inr (List.mem_append.2 (.inl e))));omega))
 have hs2:=H1.out.1.turn ht2 (fun g hg e=>(HN.out.1 g hg).2.1 e);have hu2:=H1.out.2.1.turn ht2 (fun g hg e=>(HN.out.2.1 g hg).1 e);have hq2:=H1.out.2.2.2.1.turn ht2 (fun g hg e=>(HN.out.2.2.1 g e).1 hg);have hm2:=H1.out.2.2.2.2.1.turn ht2 (fun g hg e=>(HN.out.2.2.1 g e).2 hg)
 have hT2:Tn (vBl (.slice sa v.ss.length sc) (.slice ua v.tt.length uc) (.slice ta v.ks.length tc) (.slice pa v.ps.length pc) (.slice la v.ls.length lc) (.slice qa v.qs.length qc) (.slice ma v.ms.length mc) rs) w w2:=(H1.out.2.2.2.2.2.mono (fun b hb=>by unfold vBl;exact List.mem_append.2 (.inl hb))).trans (ht2.mono (fun b hb=>by unfold vBl;exact List.mem_append.2 (.inr (List.mem_append.2 (.inl hb)))))
 have H2:Hid _:=And.intro hs2 (And.intro hu2 (And.intro hA2 (And.intro hq2 (And.intro hm2 hT2))));have hwz2:w.heap.size<w2.heap.size:=Nat.lt_of_lt_of_le hwz1 ht2.size;clear hs2 hu2 hA2 hq2 hm2 ht2 hT2 H1 HZ1 c4 c5 c6 c7 c8 c9 c10;obtain⟨c11,c12,c13,c14,c15,c16⟩:=CellsAt.c6 z2 11 12 13 14 15 16;clear z2;go_wp2_with fail
 refine(markRoundO v.ph v.top v.at_ v.ro base (k+v.ss.length+v.tt.length+cntS v.ks v.ps v.ls) _ _ v.qs v.ms w2 H2.out.2.2.2.1 H2.out.2.2.2.2.1 (fun g hg=>HN.out.2.2.2 g hg) (by omega) hc2).mono ?_;rintro e w3 ⟨rfl,hq3,hm3,ht3⟩
 have e3:∀b∈(sBlk (.slice qa v.qs.length qc)).toList++(sBlk (.slice ma v.ms.length mc)).toList,sBlk (.slice sa v.ss.length sc)≠some b/\sBlk (.slice ua v.tt.length uc)≠some b/\b∉blks (.slice ta v.ks.length tc) (.slice pa v.ps.length pc) (.slice la v.ls.length lc) rs:=by
  intro b hb;simp only[List.mem_append,Option.mem_toList] at hb;rcases hb with hb|hb
  ·exact⟨fun e=>(HN.out.1 b e).2.2.1 hb,fun e=>(HN.out.2.1 b e).2.1 hb,fun e=>(HN.out.2.2.1 b e).1 hb⟩
  ·exact⟨fun e=>(HN.out.1 b e).2.2.2 hb,fun e=>(HN.out.2.1 b e).2.2 hb,fun e=>(HN.out.2.2.1 b e).2 hb⟩
 have hs3:=H2.out.1.turn ht3 (fun g hg e=>(e3 g e).1 hg);have hu3:=H2.out.2.1.turn ht3 (fun g hg e=>(e3 g e).2.1 hg);have hA3:=H2.out.2.2.1.apart ht3 (fun b hb=>(e3 b hb).2.2)
 have hT3:Tn (vBl (.slice sa v.ss.length sc) (.slice ua v.tt.length uc) (.slice ta v.ks.length tc) (.slice pa v.ps.length pc) (.slice la v.ls.length lc) (.slice qa v.qs.length qc) (.slice ma v.ms.length mc) rs) w w3:=H2.out.2.2.2.2.2.trans (ht3.mono (fun b hb=>by unfold vBl;exact List.mem_append.2 (.inr (List.mem_append.2 (.inr hb)))))
 have H3:Hid (_/\_):=And.intro hT3 (And.intro hs3 (And.intro hu3 (And.intro hA3 (And.intro hq3 hm3))));clear hs3 hu3 hA3 hq3 hm3 ht3 hT3 H2 e3 c11 c12 c13 c14 c15 c16 HLt HN;go_wp2;go_ret;exact⟨rfl,⟨H3.out.2.1,H3.out.2.2.1,H3.out.2.2.2.1,H3.out.2.2.2.2.1,H3.out.2.2.2.2.2,HNd.out⟩,H3.out.1⟩
theorem heldVaultO (v:Vd) (base k:Nat) (S U T P L Q M:Value) (rs:List Value) (w:World) (h:VAns w base S U T P L Q M rs (markV k v)) (hk:1<=k) (hkn:k+cntV v<=100000000):
 Calls prog 26 #[.agg #[.int .i64 v.wd,.int .i64 v.lim,S,U,.int .i64 v.sw,.int .i64 v.now,.int .i64 v.given,.int .i64 v.births,T,P,L,.int .i64 v.ph,Q,M,.int .i64 v.top,.int .i64 v.at_,.int .i64 v.ro],.int .i64 k] w fun e w'=>e=.returned (.int .i64 (k+cntV v:Nat))/\Below w.heap.size w w':=by
 obtain⟨sa,sc,eS,hS⟩:=h.s.row;obtain⟨ua,uc,eU,hU⟩:=h.u.row;obtain⟨ta,tc,eT⟩:=own_val h.st.things;obtain⟨pa,pc,eP⟩:=own_val h.st.pins;obtain⟨la,lc,eL⟩:=own_val h.st.leases;obtain⟨qa,qc,eQ,hQ⟩:=h.q.row;obtain⟨ma,mc,eM,hM⟩:=h.m.row;have l1:(markV k v).ss.length=v.ss.length:=marks_length _ _;have l2:(markV k v).tt.length=v.tt.length:=marks_length _ _
 have l3:(markV k v).ks.length=v.ks.length:=markK_length _ _;have l4:(markV k v).ps.length=v.ps.length:=markP_length _ _;have l5:(markV k v).ls.length=v.ls.length:=markL_length _ _;have l6:(markV k v).qs.length=v.qs.length:=marks_length _ _;have l7:(markV k v).ms.length=v.ms.length:=marks_length _ _;rw[l1] at eS;rw[l2] at eU;rw[l3] at eT;rw[l4] at eP;rw[l5] at eL;rw[l6] at eQ;rw[l7] at eM
 subst eS eU eT eP eL eQ eM
 obtain⟨W,hW⟩:∃W,W=w.alloc (.cells #[.int .i64 v.wd,.int .i64 v.lim,.slice sa v.ss.length sc,.slice ua v.tt.length uc,.int .i64 v.sw,.int .i64 v.now,.int .i64 v.given,.int .i64 v.births,.slice ta v.ks.length tc,.slice pa v.ps.length pc,.slice la v.ls.length lc,.int .i64 v.ph,.slice qa v.qs.length qc,.slice ma v.ms.length mc,.int .i64 v.top,.int .i64 v.at_,.int .i64 v.ro] 44):=⟨_,rfl⟩
 have hb:=(al1 hW).1;have hz:=(al1 hW).2.2;have HZ:Hid (CellsAt W _ _):=(al1 hW).2.2;have HA:Hid (SAns w base (.slice ta v.ks.length tc) (.slice pa v.ps.length pc) (.slice la v.ls.length lc) rs (markK (k+v.ss.length+v.tt.length) v.ks) (markP (k+v.ss.length+v.tt.length+v.ks.length *3+refsN v.ks) v.ps) (markL (k+v.ss.length+v.tt.length+v.ks.length *3+refsN v.ks+v.ps.length *2) v.ls)):=h.st
 have HR:Hid (SRow w w.heap.size sa (marks k v.ss.length)/\SRow w w.heap.size ua (marks (k+v.ss.length) v.tt.length)/\SRow w w.heap.size qa (marks (k+v.ss.length+v.tt.length+cntS v.ks v.ps v.ls) v.qs.length)/\SRow w w.heap.size ma (marks (k+v.ss.length+v.tt.length+cntS v.ks v.ps v.ls+v.qs.length) v.ms.length)):=⟨hS,hU,hQ,hM⟩;obtain⟨c2,c3⟩:=CellsAt.c2 hz 2 3;have HW:Hid _:=hW
 have HB:Hid (Below w.heap.size w W):=hb;have hc0:k+v.ss.length+v.tt.length<=100000000:=by unfold cntV at hkn;omega
 have hc1:k+v.ss.length+v.tt.length+cntS v.ks v.ps v.ls<=100000000:=by unfold cntV at hkn;omega
 have hc2:k+v.ss.length+v.tt.length+cntS v.ks v.ps v.ls+v.qs.length+v.ms.length<=100000000:=by unfold cntV at hkn;omega
 have HKN:Hid (k+cntV v=k+v.ss.length+v.tt.length+cntS v.ks v.ps v.ls+v.qs.length+v.ms.length):=by show k+cntV v=_;unfold cntV;omega
 rw[HKN.out];clear h hW hz hb hkn hS hU hQ hM l1 l2 l3 l4 l5 l6 l7;go_enter func26,ntmps26;go_upto_region 1 with fail;rw[←HW.out];clear HW;go_wp2_with fail;refine(heldLog_any sa ua v.ss.length v.tt.length sc uc k W ((HR.out.1.below HB.out).mono HB.out.size) ((HR.out.2.1.below HB.out).mono HB.out.size) hk hc0).mono ?_;rintro e w1 ⟨rfl,hb1⟩
 have z1:CellsAt w1 w.heap.size [.int .i64 v.wd,.int .i64 v.lim,.slice sa v.ss.length sc,.slice ua v.tt.length uc,.int .i64 v.sw,.int .i64 v.now,.int .i64 v.given,.int .i64 v.births,.slice ta v.ks.length tc,.slice pa v.ps.length pc,.slice la v.ls.length lc,.int .i64 v.ph,.slice qa v.qs.length qc,.slice ma v.ms.length mc,.int .i64 v.top,.int .i64 v.at_,.int .i64 v.ro]:=CellsAt.below HZ.out hb1
 have HZ1:Hid (CellsAt w1 w.heap.size [.int .i64 v.wd,.int .i64 v.lim,.slice sa v.ss.length sc,.slice ua v.tt.length uc,.int .i64 v.sw,.int .i64 v.now,.int .i64 v.given,.int .i64 v.births,.slice ta v.ks.length tc,.slice pa v.ps.length pc,.slice la v.ls.length lc,.int .i64 v.ph,.slice qa v.qs.length qc,.slice ma v.ms.length mc,.int .i64 v.top,.int .i64 v.at_,.int .i64 v.ro]):=z1
 have HB1:Hid (Below w.heap.size w w1):=HB.out.trans (hb1.mono HB.out.size);obtain⟨c4,c5,c6,c7,c8,c9,c10⟩:=CellsAt.c7 z1 4 5 6 7 8 9 10;clear z1 hb1 c2 c3 HZ HB;go_wp2_with fail;refine(heldStateX v.sw v.now v.given v.births base (k+v.ss.length+v.tt.length) _ _ _ rs v.ks v.ps v.ls w1 (HA.out.below HB1.out) (by omega) hc1).mono ?_;rintro e w2 ⟨rfl,hb2⟩
 have z2:CellsAt w2 w.heap.size [.int .i64 v.wd,.int .i64 v.lim,.slice sa v.ss.length sc,.slice ua v.tt.length uc,.int .i64 v.sw,.int .i64 v.now,.int .i64 v.given,.int .i64 v.births,.slice ta v.ks.length tc,.slice pa v.ps.length pc,.slice la v.ls.length lc,.int .i64 v.ph,.slice qa v.qs.length qc,.slice ma v.ms.length mc,.int .i64 v.top,.int .i64 v.at_,.int .i64 v.ro]:=CellsAt.below HZ1.out hb2
 have HB2:Hid (Below w.heap.size w w2):=HB1.out.trans (hb2.mono HB1.out.size);obtain⟨c11,c12,c13,c14,c15,c16⟩:=CellsAt.c6 z2 11 12 13 14 15 16;clear z2 hb2 c4 c5 c6 c7 c8 c9 c10 HZ1 HB1;go_wp2_with fail
 refine(heldRound_any v.ph v.top v.at_ v.ro qa ma v.qs.length v.ms.length qc mc (k+v.ss.length+v.tt.length+cntS v.ks v.ps v.ls) w2 ((HR.out.2.2.1.below HB2.out).mono HB2.out.size) ((HR.out.2.2.2.below HB2.out).mono HB2.out.size) (by omega) hc2).mono ?_;rintro e w3 ⟨rfl,hb3⟩;have HB3:Hid (Below w.heap.size w w3):=HB2.out.trans (hb3.mono HB2.out.size);clear c11 c12 c13 c14 c15 c16 hb3 HB2 HR HA
 go_wp2;go_ret;exact⟨rfl,HB3.out⟩
end Go.Proofs.YtpekbmegopfhfaaGreatDoor
