import Derived.Test.YthkmpihfhkmaoaaGreatDoorV09
import Derived.Test.YthkmpihfhkmaoaaGreatDoorV08
namespace Go.Proofs.YthkmpihfhkmaoaaGreatDoor
open Go.ChangeShapes Go.WideShapes Go.ChangeAt Go.RowKit
theorem Holds.low {W w:World} {B:Nat} {wd:Int} {ks:List Kd} {f:Lit->Option Value} (h:Holds W B wd ks f) (hb:Below B W w):Holds w B wd ks f:=by
 intro s hs;rcases h s hs with h|⟨u,ra,rc,h1,h2,h3,h4⟩
 ·exact .inl h
 ·exact .inr ⟨u,ra,rc,h1,h2,h3,SRow.below h4 hb⟩
def HU (w:World) (base m:Nat) (wd:Int) (ks:List Kd):Prop:=∃n f,n<=1000000/\KMap w 162 m n f/\Holds w base wd ks f
theorem HU.turn {w w':World} {base m:Nat} {wd:Int} {ks:List Kd} {V:List Nat} (h:HU w base m wd ks) (ht:Tn V w w') (hb:base<=w.heap.size) (hV:∀b∈V,base<=b) (hm:m∉V):HU w' base m wd ks:=by
 obtain⟨n,f,h1,h2,h3⟩:=h;exact⟨n,f,h1,KMap.same h2 (ht.block m h2.lt hm),h3.low (ht.below hb hV)⟩
theorem Dr.turnU {w w':World} {base d m:Nat} {O P L:Value} {wd now given births:Int} {ks:List Kd} {ps:List Pd} {ls:List Ld} {V:List Nat} (h:Dr w base d m O P L wd now given births ks ps ls) (hu:HU w base m wd ks) (ht:Tn V w w') (hV:∀b∈V,base<=b/\b∉vB d m O P L):Dr w' base d m O P L wd now given births ks ps ls:=by
 have hlt:=h.lts;have hbase:base<=w.heap.size:=by have:=h.bd;have:=h.box.lt;omega
 have hs:∀b∈vB d m O P L,w'.heap[b]?=w.heap[b]?:=fun b hb=>ht.block b (hlt b hb) (fun e=>(hV b e).2 hb);have hd:d∈vB d m O P L:=by simp[vB]
 have hm:m∈vB d m O P L:=by simp[vB]
 obtain⟨n,f,h1,h2,h3⟩:=hu.turn ht hbase (fun b hb=>(hV b hb).1) (fun e=>(hV m e).2 hm);refine⟨CellsAt.same h.box (hs d hd),⟨n,f,h1,h2,fun s hsz=> ?_⟩,own_same h.ord (fun g hg=>hs g (by simp[vB,hg])),own_same h.pin (fun g hg=>hs g (by simp[vB,hg])),own_same h.lea (fun g hg=>hs g (by simp[vB,hg])),h.bd,h.bm,h.ap⟩;rcases h3 s hsz with h|⟨u,ra,rc,k1,k2,k3,k4⟩
 ·exact .inl h
 ·refine .inr ⟨u,ra,rc,k1,k2,k3,?_⟩
  rcases k4 with k4|⟨b,off,ha,hb,hc⟩
  ·exact .inl k4
  ·refine .inr ⟨b,off,ha,by have:=ht.size;omega,fun hv=> ?_,.inl hb,hc⟩
   have:base<=b:=by
    unfold vB at hv;simp only[List.mem_cons,List.mem_append,Option.mem_toList] at hv;rcases hv with rfl|rfl|hv|hv|hv
    ·exact h.bd
    ·exact h.bm
    ·exact(own_lt h.ord hv).1
    ·exact(own_lt h.pin hv).1
    ·exact(own_lt h.lea hv).1
   omega
theorem tn1 (w:World) (R j:Nat) (v:Value):Tn [R] w (w.setCell ⟨R,j,none⟩ v):=Tn.set w R j v (by simp)
theorem tn_grown {w w':World} {b:Option Nat} (hg:w.grownBy w' b):Tn b.toList w w':=⟨hg.os,hg.tape,hg.output,hg.size,fun k hk hv=>hg.block k hk (fun e=>hv (by simp[←e]))⟩
end Go.Proofs.YthkmpihfhkmaoaaGreatDoor
namespace Go.Proofs.YthkmpihfhkmaoaaGreatDoor
open Go.ChangeShapes Go.WideShapes Go.ChangeAt Go.RowKit
def HN (w:World) (m N:Nat):Prop:=∃n f,n<=N/\KMap w 162 m n f
set_option maxRecDepth 20000 in
set_option maxHeartbeats 8000000 in
theorem draftOfN_any (wd now given births:Int) (a p l:Option Addr) (ac pc lc:Nat) (ks:List Kd) (ps:List Pd) (ls:List Ld) (w:World) (hrow:SRows w w.heap.size a p l ks ps ls) (hk:ks.length<=600) (hp:ps.length<=100) (hl:ls.length<=200) (hsz:∀k∈ks,(k.sum.size:Int)=wd) (h8:wd<=8):
 Calls Tryz.prog 44 #[.agg #[.int .i64 wd,.int .i64 now,.int .i64 given,.int .i64 births,.slice a ks.length ac,.slice p ps.length pc,.slice l ls.length lc]] w fun e w'=>∃d m O P L,e=.returned (.pointer (some ⟨d,0,none⟩))/\Dr w' (w.heap.size+1) d m O P L wd now given births ks ps ls/\HU w' (w.heap.size+1) m wd ks/\HN w' m 600/\Below w.heap.size w w':=by
 have hx:=SBox.new w wd now given births (.slice a ks.length ac) (.slice p ps.length pc) (.slice l ls.length lc) 38;obtain⟨W0,hW0⟩:∃W,W=w.alloc (.cells #[.int .i64 wd,.int .i64 now,.int .i64 given,.int .i64 births,.slice a ks.length ac,.slice p ps.length pc,.slice l ls.length lc] 38):=⟨_,rfl⟩;have hB0:Below w.heap.size w W0:=by rw[hW0];exact(Below.refl _ _).alloc (Nat.le_refl _) _
 have hz0:W0.heap.size=w.heap.size+1:=by rw[hW0];simp
 rw[←hW0] at hx;have HROW:Hid _:=hrow;have HX:Hid _:=hx;have HW0:Hid _:=hW0;have S0:=sq7 hx
 have S0d:W0.drew.cell? ⟨w.heap.size,0,none⟩=some (.int .i64 wd)/\W0.drew.cell? ⟨w.heap.size,1,none⟩=some (.int .i64 now)/\W0.drew.cell? ⟨w.heap.size,2,none⟩=some (.int .i64 given)/\W0.drew.cell? ⟨w.heap.size,3,none⟩=some (.int .i64 births)/\W0.drew.cell? ⟨w.heap.size,4,none⟩=some (.slice a ks.length ac)/\W0.drew.cell? ⟨w.heap.size,5,none⟩=some (.slice p ps.length pc)/\W0.drew.cell? ⟨w.heap.size,6,none⟩=some (.slice l ls.length lc):=S0
 have K0:KRow W0.drew W0.drew.heap.size a ks:=KRow.mono (KRow.below hrow.k hB0.drew) hB0.size;have hk':ks.length<=1048576:=by omega
 have hp':ps.length<=1048576:=by omega
 have hl':ls.length<=1048576:=by omega
 clear hrow hx hW0;go_enter Tryz.func44,Tryz.ntmps44;go_upto_region 1 with fail;rw[←HW0.out];clear HW0
 go_region_held3 (fun w'=>w'.cell? ⟨w.heap.size,0,none⟩=some (.int .i64 wd)/\w'.cell? ⟨w.heap.size,1,none⟩=some (.int .i64 now)/\w'.cell? ⟨w.heap.size,2,none⟩=some (.int .i64 given)/\w'.cell? ⟨w.heap.size,3,none⟩=some (.int .i64 births)/\w'.cell? ⟨w.heap.size,4,none⟩=some (.slice a ks.length ac)/\w'.cell? ⟨w.heap.size,5,none⟩=some (.slice p ps.length pc)/\w'.cell? ⟨w.heap.size,6,none⟩=some (.slice l ls.length lc))
  (first|exact S3|exact S2|exact S1|exact S0d|exact sq7 (SBox.below X3.out ((Below.refl _ _).alloc (Nat.le_refl _) _)))
  (first
  |(go_at_call 98;refine(shelfOf_any wd now given births a ac (.slice p ps.length pc) (.slice l ls.length lc) ks W0.drew K0 hk' hsz h8).mono ?_;rintro e w1 ⟨m,f,rfl,hm,hM,hH,hb1⟩;have B1:Below W0.heap.size W0 w1:=(Below.refl W0.heap.size W0).drew.trans hb1;have S1:=sq7 (SBox.below HX.out B1))
  |(go_at_call 108;refine(clonePin_any p pc ps w1 (PRow.mono (PRow.below HROW.out.p (hB0.trans (B1.mono hB0.size))) (hB0.trans (B1.mono hB0.size)).size) hp').mono ?_;rintro e w2 ⟨p2,pc2,rfl,ho2,hb2⟩;have B2:Below W0.heap.size W0 w2:=B1.trans (hb2.mono B1.size);have S2:=sq7 (SBox.below HX.out B2))
  |(go_at_call 109;refine(cloneLease_any l lc ls w2 (LRow.mono (LRow.below HROW.out.l (hB0.trans (B2.mono hB0.size))) (hB0.trans (B2.mono hB0.size)).size) hl').mono ?_;rintro e w3 ⟨l3,lc3,rfl,ho3,hb3⟩;have B3:Below W0.heap.size W0 w3:=B2.trans (hb3.mono B2.size);have X3:Hid _:=SBox.below HX.out B3;have S3:=sq7 X3.out))
 obtain⟨W4,hW4⟩:∃W,W=w3.alloc (.cells #[.int .i64 wd,.map (some m),.int .i64 now,.int .i64 given,.int .i64 births,.slice none 0 0,.slice p2 ps.length pc2,.slice l3 ls.length lc3] 160):=⟨_,rfl⟩;have hz4:W4.heap.size=w3.heap.size+1:=by rw[hW4];simp
 have hb4:Below w3.heap.size w3 W4:=by rw[hW4];exact(Below.refl _ _).alloc (Nat.le_refl _) _
 have Z4:CellsAt W4 w3.heap.size [.int .i64 wd,.map (some m),.int .i64 now,.int .i64 given,.int .i64 births,.slice none 0 0,.slice p2 ps.length pc2,.slice l3 ls.length lc3]:=by rw[hW4];exact CellsAt.new w3 _ _
 have hz01:w.heap.size+1<=w1.heap.size:=by have:=B1.size;omega
 have hz12:=hb2.size;have hz23:=hb3.size;have hm3:m<w1.heap.size:=hM.lt;have B4:Below w.heap.size w W4:=(hB0.trans (B3.mono hB0.size)).trans (hb4.mono (by omega));have B04:Hid (Below W0.drew.heap.size W0.drew W4):=((hb1.trans (hb2.mono (by simp;omega))).trans (hb3.mono (by simp;omega))).trans (hb4.mono (by simp;omega));have HX4:Hid _:=SBox.below X3.out hb4
 have HM4:Hid (KMap W4 162 m ks.length f):=hM.keep (B:=w1.heap.size) ((hb2.trans (hb3.mono hz12)).trans (hb4.mono (by omega))) hm3;have HP4:Hid (W4.ownsRow w1.heap.size 130 2 (.slice p2 ps.length pc2) ps.length (rowC pC ps)):=own_below (own_below ho2 hb3) hb4;have HL4:Hid (W4.ownsRow w2.heap.size 131 3 (.slice l3 ls.length lc3) ls.length (rowC lC ls)):=own_below ho3 hb4
 have HP2:Hid (∀g,(Value.slice p2 ps.length pc2).ownBlock=some g->w1.heap.size<=g/\g<w2.heap.size):=fun g hg=>own_lt ho2 hg;have HL3:Hid (∀g,(Value.slice l3 ls.length lc3).ownBlock=some g->w2.heap.size<=g/\g<w3.heap.size):=fun g hg=>own_lt ho3 hg;have HH:Hid _:=hH;have HZ4:Hid _:=Z4;have hm0:w.heap.size+1<=m:=by have:=hm;simp at this;omega
 rw[←hW4];clear hW4 S0 S0d S1 S2 S3 X3 HX B1 B2 B3 hb1 hb2 hb3 hM ho2 ho3 hH Z4 K0 hm;obtain⟨x0,x1,x2,x3,x4,x5,x6,x7⟩:=HX4.out;go_wp2
 go_loopw [25] (fun i wr=>∃(k:Nat) (O:Value),k<=ks.length/\i=.int .i64 k/\Hid (CellsAt wr w3.heap.size [.int .i64 wd,.map (some m),.int .i64 now,.int .i64 given,.int .i64 births,O,.slice p2 ps.length pc2,.slice l3 ls.length lc3])/\Hid (wr.ownsRow (w3.heap.size+1) 162 8 O ((ks.take k).map (·.sum)).length (cells8 ((ks.take k).map (·.sum))))/\Below w3.heap.size W4 wr) (fun i _=>ks.length -(intOf i).toNat)
 case atStart=>exact⟨0,_,Nat.zero_le _,rfl,HZ4,⟨rfl,.inl ⟨rfl,rfl⟩⟩,Below.refl _ _⟩
 case round=>
  clear x0 x1 x2 x3 x4 x5 x6 x7 HZ4;obtain⟨k,O,hkl,rfl,HZ,HO,hbel⟩:=hrel;obtain⟨x0,x1,x2,x3,x4,x5,x6,x7⟩:=SBox.keep HX4.out hbel (by omega);have hzr:w3.heap.size+1<=wr.heap.size:=by have:=hbel.size;omega
  by_cases hlt:k<ks.length
  ·obtain⟨b,off,ha,hb,hc⟩:=(KRow.below HROW.out.k (B4.trans (hbel.mono (by omega)))).at hlt
   subst ha;have HG:Hid (ks[k]?=some ks[k]):=List.getElem?_eq_getElem hlt;obtain⟨c0,c1,c2,ra,rc,c3,_⟩:=hc k _ HG.out;have hbr:b<wr.heap.size:=by omega
   have HN:Hid ((ks.take (k+1)).map (·.sum)=(ks.take k).map (·.sum)++[ks[k].sum]):=by
    show _=_;rw[List.take_succ_eq_append_getElem hlt,List.map_append];rfl
   have hln:((ks.take k).map (·.sum)).length<=600:=by simp;omega
   clear hc;generalize ks[k]=x at *
   generalize (ks.take k).map (·.sum)=Os at *
   obtain⟨W5,hW5⟩:∃W,W=wr.alloc (.cells #[.string x.sum,.int .i64 x.born,.string x.text,.slice ra x.refs.length rc] 114):=⟨_,rfl⟩;have hz5:W5.heap.size=wr.heap.size+1:=by rw[hW5];simp
   have b5:Below wr.heap.size wr W5:=by rw[hW5];exact(Below.refl _ _).alloc (Nat.le_refl _) _
   have Z5:CellsAt W5 wr.heap.size [.string x.sum,.int .i64 x.born,.string x.text,.slice ra x.refs.length rc]:=by rw[hW5];exact CellsAt.new wr _ _
   have HOr:Hid _:=HO.out;have HO5:Hid _:=own_below HO.out b5;have HZ5:Hid _:=CellsAt.below HZ.out b5;have HB5:Hid (Below w3.heap.size W4 W5):=hbel.trans (b5.mono (by omega));have P5:W5.drew.cell? ⟨w3.heap.size,5,none⟩=some O/\W5.drew.cell? ⟨wr.heap.size,0,none⟩=some (.string x.sum):=⟨(HZ5.out 5 _ rfl).1,(Z5 0 _ rfl).1⟩;have D5:Below W5.heap.size W5 W5.drew:=(Below.refl _ _).drew
   have HW5:Hid _:=hW5;clear hW5 Z5 HO HZ;go_upto_region 5 with fail;rw[←HW5.out];clear HW5 x0 x1 x2 x3 x4 x5 x6 x7 c0 c1 c2 c3;obtain⟨P5a,P5b⟩:=P5;have hne:∀g,O.ownBlock=some g->w3.heap.size+1<=g/\g<wr.heap.size:=fun g hg=>own_lt HOr.out hg;have hwn:wr.heap.size≠w3.heap.size:=by omega
   go_region_law (first
    |(go_simp;go_at_call 110;refine(key_out x.sum W5.drew).mono ?_;rintro e w6 ⟨rfl,hb6⟩;have b6:Below W5.heap.size W5 w6:=D5.trans hb6;have P6a:w6.cell? ⟨w3.heap.size,5,none⟩=some O:=(b6.cell (p:=⟨w3.heap.size,5,none⟩) (by simp;omega)).trans P5a;have P6b:w6.cell? ⟨wr.heap.size,0,none⟩=some (.string x.sum):=(b6.cell (p:=⟨wr.heap.size,0,none⟩) (by simp;omega)).trans P5b;have b7:Below W5.heap.size W5 (w6.alloc (oneK x.sum)):=b6.alloc b6.size _;have P7a:(w6.alloc (oneK x.sum)).cell? ⟨w3.heap.size,5,none⟩=some O:=(b7.cell (p:=⟨w3.heap.size,5,none⟩) (by simp;omega)).trans P5a;have P7b:(w6.alloc (oneK x.sum)).cell? ⟨wr.heap.size,0,none⟩=some (.string x.sum):=(b7.cell (p:=⟨wr.heap.size,0,none⟩) (by simp;omega)).trans P5b;have z6:=b6.size;obtain⟨g8,c8,w8,hr8,ho8,hg8,ha8⟩:=opush w6 (w3.heap.size+1) O Os (own_below HO5.out b6) x.sum (by omega) (by omega) 158;have Z6:=CellsAt.below HZ5.out b6;unfold oneK at hr8 P7a P7b;go_wp2_with fail)
    |(refine step_append_run (by rfl) (.tmp 33) (.tmp 37) 158 158 (by rfl) (by rfl) (by rfl) hr8 ?_;have P8b:w8.cell? ⟨wr.heap.size,0,none⟩=some (.string x.sum):=hg8.cell P6b (fun e=>by have:=(hne _ e.symm).2;simp at this);have Z8:CellsAt w8 w3.heap.size _:=(CellsAt.same Z6 (hg8.block w3.heap.size (by omega) (fun e=>by have:=(hne _ e.symm).1;omega)));have P8a:=(Z8 5 _ rfl).1;have F8:=(Z8 5 _ rfl).2))
   all_goals
    have hx8:Below w3.heap.size W4 w8:=(HB5.out.trans (b6.mono (by omega))).grown hg8 (by omega) (fun g hg=>by have:=(hne g hg).1;omega);have HX8:Hid _:=And.intro Z8 (And.intro hx8 ho8);clear Z8 hx8 ho8 hg8 hr8 Z6 b6 b7 hb6 HO5 HZ5 HB5 P5a P5b P6a P6b P7a P7b P8a P8b F8 ha8 D5 b5;go_wp2;refine⟨⟨k+1,.slice (some ⟨g8,0,none⟩) (Os.length+1) c8,by omega,by go_num,?_,?_,?_⟩,by simp[intOf];omega⟩
    ·exact CellsAt.set HX8.out.1 5 _
    ·rw[HN.out]
     exact ownsRow_setCell_below HX8.out.2.2 (by simp<;>omega) _
    ·exact HX8.out.2.1.setCell (by simp) _
  ·obtain rfl:k=ks.length:=by omega
   rw[List.take_of_length_le (Nat.le_refl _)] at HO;go_wp2;have hap:(vB w3.heap.size m O (.slice p2 ps.length pc2) (.slice l3 ls.length lc3)).Nodup:=by
    have hO:∀g,O.ownBlock=some g->w3.heap.size+1<=g:=fun g hg=>(own_lt HO.out hg).1;have hP:∀g,(Value.slice p2 ps.length pc2).ownBlock=some g->w1.heap.size<=g/\g<w2.heap.size:=HP2.out;have hL:∀g,(Value.slice l3 ls.length lc3).ownBlock=some g->w2.heap.size<=g/\g<w3.heap.size:=HL3.out;unfold vB;generalize (Value.slice p2 ps.length pc2).ownBlock=bp at *
    generalize (Value.slice l3 ls.length lc3).ownBlock=bl at *
    generalize O.ownBlock=bo at *
    cases bo<;>cases bp<;>cases bl<;>simp_all<;>omega
   have hV:∀q∈vB w3.heap.size m O (.slice p2 ps.length pc2) (.slice l3 ls.length lc3),w.heap.size+1<=q:=by
    intro q hq;unfold vB at hq;simp only[List.mem_cons,List.mem_append,Option.mem_toList] at hq;rcases hq with rfl|rfl|hq|hq|hq
    ·omega
    ·omega
    ·have:=(own_lt HO.out hq).1;omega
    ·have:=(HP2.out _ hq).1;omega
    ·have:=(HL3.out _ hq).1;omega
   go_ret;refine⟨_,rfl,m,⟨O,_,_,⟨HZ.out,⟨ks.length,f,by omega,HM4.out.keep hbel (by omega),?_⟩,?_,?_,?_,by omega,by omega,hap⟩⟩,⟨ks.length,f,by omega,HM4.out.keep hbel (by omega),?hu⟩,⟨ks.length,f,hk,HM4.out.keep hbel (by omega)⟩,B4.trans (hbel.mono (by omega))⟩
   ·have hq:W0.drew.heap.size=w.heap.size+1:=hz0
    rw[←hq];exact HoldsV.of HH.out (B04.out.trans (hbel.mono (by simp;omega))) (fun q hq=>by have:=hV q hq;simp;omega)
   ·have:=HO.out
    rw[List.length_map] at this;exact this.mono (by omega)
   ·refine World.ownsRow.mono ?_ (show w.heap.size+1<=w1.heap.size by omega)
    exact own_at HP4.out hbel (fun g hg=>by have:=(HP2.out g hg).2;omega)
   ·refine World.ownsRow.mono ?_ (show w.heap.size+1<=w2.heap.size by omega)
    exact own_at HL4.out hbel (fun g hg=>by have:=(HL3.out g hg).2;omega)
   case hu=>
    have hq:W0.drew.heap.size=w.heap.size+1:=hz0;rw[←hq];exact Holds.low HH.out (B04.out.trans (hbel.mono (by simp;omega)))
theorem draftOfU_any (wd now given births:Int) (a p l:Option Addr) (ac pc lc:Nat) (ks:List Kd) (ps:List Pd) (ls:List Ld) (w:World) (hrow:SRows w w.heap.size a p l ks ps ls) (hk:ks.length<=600) (hp:ps.length<=100) (hl:ls.length<=200) (hsz:∀k∈ks,(k.sum.size:Int)=wd) (h8:wd<=8):
 Calls Tryz.prog 44 #[.agg #[.int .i64 wd,.int .i64 now,.int .i64 given,.int .i64 births,.slice a ks.length ac,.slice p ps.length pc,.slice l ls.length lc]] w fun e w'=>∃d m O P L,e=.returned (.pointer (some ⟨d,0,none⟩))/\Dr w' (w.heap.size+1) d m O P L wd now given births ks ps ls/\HU w' (w.heap.size+1) m wd ks/\Below w.heap.size w w':=by
 refine(draftOfN_any wd now given births a p l ac pc lc ks ps ls w hrow hk hp hl hsz h8).mono ?_;rintro e w' ⟨d,m,O,P,L,rfl,h1,h2,_,h3⟩;exact⟨d,m,O,P,L,rfl,h1,h2,h3⟩
end Go.Proofs.YthkmpihfhkmaoaaGreatDoor
namespace Go.Proofs.YthkmpihfhkmaoaaGreatDoor
open Go.ChangeShapes Go.WideShapes Go.ChangeAt Go.RowKit
structure DU (w:World) (base d m:Nat) (O P L:Value) (wd now given births:Int) (ks:List Kd) (ps:List Pd) (ls:List Ld):Prop where
 dr:Dr w base d m O P L wd now given births ks ps ls
 hu:HU w base m wd ks
variable {w w':World} {base d m:Nat} {O P L:Value} {wd now given births:Int} {ks:List Kd} {ps:List Pd} {ls:List Ld}
theorem DU.lo (h:DU w base d m O P L wd now given births ks ps ls):base<=w.heap.size:=by
 have:=h.dr.bd;have:=h.dr.box.lt;omega
theorem DU.turn {V:List Nat} (h:DU w base d m O P L wd now given births ks ps ls) (ht:Tn V w w') (hV:∀b∈V,base<=b/\b∉vB d m O P L):DU w' base d m O P L wd now given births ks ps ls:=
 ⟨h.dr.turnU h.hu ht hV,h.hu.turn ht h.lo (fun b hb=>(hV b hb).1) (fun e=>(hV m e).2 (by simp[vB]))⟩
theorem DU.below (h:DU w base d m O P L wd now given births ks ps ls) (hb:Below w.heap.size w w'):DU w' base d m O P L wd now given births ks ps ls:=
 h.turn (V:=[]) (Tn.of hb) (by simp)
theorem DU.mk' (hbox:CellsAt w d [.int .i64 wd,.map (some m),.int .i64 now,.int .i64 given,.int .i64 births,O,P,L]) (hu:HU w base m wd ks) (ho:w.ownsRow base 162 8 O ks.length (cells8 (ks.map (·.sum)))) (hp:w.ownsRow base 130 2 P ps.length (rowC pC ps)) (hl:w.ownsRow base 131 3 L ls.length (rowC lC ls)) (hd:base<=d) (hm:base<=m) (ha:(vB d m O P L).Nodup):DU w base d m O P L wd now given births ks ps ls:=by
 refine⟨⟨hbox,?_,ho,hp,hl,hd,hm,ha⟩,hu⟩;obtain⟨n,f,h1,h2,h3⟩:=hu;have hlo:base<=w.heap.size:=by have:=hbox.lt;omega
 refine⟨n,f,h1,h2,fun s hsz=> ?_⟩;rcases h3 s hsz with h|⟨u,ra,rc,k1,k2,k3,k4⟩
 ·exact .inl h
 ·refine .inr ⟨u,ra,rc,k1,k2,k3,?_⟩
  rcases k4 with k4|⟨b,off,hab,hb,hc⟩
  ·exact .inl k4
  ·refine .inr ⟨b,off,hab,by omega,fun hv=> ?_,.inl hb,hc⟩
   have:base<=b:=by
    unfold vB at hv;simp only[List.mem_cons,List.mem_append,Option.mem_toList] at hv;rcases hv with rfl|rfl|hv|hv|hv
    ·exact hd
    ·exact hm
    ·exact(own_lt ho hv).1
    ·exact(own_lt hp hv).1
    ·exact(own_lt hl hv).1
   omega
theorem ap_newL {d m n:Nat} {O P L L':Option Nat} (h:(d::m::(O.toList++(P.toList++L.toList))).Nodup) (hlt:∀b∈d::m::(O.toList++(P.toList++L.toList)),b<n) (hL:L'=L∨∃g,L'=some g/\n<=g):(d::m::(O.toList++(P.toList++L'.toList))).Nodup:=by
 rcases hL with rfl|⟨g,rfl,hg⟩
 ·exact h
 ·cases O<;>cases P<;>cases L<;>simp_all<;>grind
theorem ap_newP {d m n:Nat} {O P L P':Option Nat} (h:(d::m::(O.toList++(P.toList++L.toList))).Nodup) (hlt:∀b∈d::m::(O.toList++(P.toList++L.toList)),b<n) (hL:P'=P∨∃g,P'=some g/\n<=g):(d::m::(O.toList++(P'.toList++L.toList))).Nodup:=by
 rcases hL with rfl|⟨g,rfl,hg⟩
 ·exact h
 ·cases O<;>cases P<;>cases L<;>simp_all<;>grind
theorem ap_parts {d m:Nat} {O P L:Option Nat} (h:(d::m::(O.toList++(P.toList++L.toList))).Nodup):d≠m/\(∀g,O=some g->g≠d/\g≠m/\P≠some g/\L≠some g)/\(∀g,P=some g->g≠d/\g≠m/\L≠some g)/\(∀g,L=some g->g≠d/\g≠m):=by
 cases O<;>cases P<;>cases L<;>simp_all<;>grind
theorem DU.newL (h:DU w base d m O P L wd now given births ks ps ls) (ht:Tn (d::L.ownBlock.toList) w w') {L':Value} {ls':List Ld} {now' given':Int} (hbox:CellsAt w' d [.int .i64 wd,.map (some m),.int .i64 now',.int .i64 given',.int .i64 births,O,P,L']) (hl:w'.ownsRow base 131 3 L' ls'.length (rowC lC ls')) (hb:L'.ownBlock=L.ownBlock∨∃g,L'.ownBlock=some g/\w.heap.size<=g):DU w' base d m O P L' wd now' given' births ks ps ls':=by
 obtain⟨a1,a2,a3,a4⟩:=ap_parts h.dr.ap;have hge:∀b∈d::L.ownBlock.toList,base<=b:=fun b hb=>by
  rcases List.mem_cons.1 hb with rfl|hb
  ·exact h.dr.bd
  ·exact(own_lt h.dr.lea (by simpa using hb)).1
 refine DU.mk' hbox (h.hu.turn ht h.lo hge (fun e=> ?_)) (own_same h.dr.ord (fun g hg=>ht.block g (own_lt h.dr.ord hg).2 (fun e=> ?_))) (own_same h.dr.pin (fun g hg=>ht.block g (own_lt h.dr.pin hg).2 (fun e=> ?_))) hl h.dr.bd h.dr.bm (ap_newL h.dr.ap h.dr.lts hb)
 ·rcases List.mem_cons.1 e with e|e
  ·exact a1 e.symm
  ·exact(a4 m (by simpa using e)).2 rfl
 ·rcases List.mem_cons.1 e with e|e
  ·exact(a2 g hg).1 e
  ·exact(a2 g hg).2.2.2 (by simpa using e)
 ·rcases List.mem_cons.1 e with e|e
  ·exact(a3 g hg).1 e
  ·exact(a3 g hg).2.2 (by simpa using e)
theorem DU.newP (h:DU w base d m O P L wd now given births ks ps ls) (ht:Tn (d::P.ownBlock.toList) w w') {P':Value} {ps':List Pd} (hbox:CellsAt w' d [.int .i64 wd,.map (some m),.int .i64 now,.int .i64 given,.int .i64 births,O,P',L]) (hl:w'.ownsRow base 130 2 P' ps'.length (rowC pC ps')) (hb:P'.ownBlock=P.ownBlock∨∃g,P'.ownBlock=some g/\w.heap.size<=g):DU w' base d m O P' L wd now given births ks ps' ls:=by
 obtain⟨a1,a2,a3,a4⟩:=ap_parts h.dr.ap;have hge:∀b∈d::P.ownBlock.toList,base<=b:=fun b hb=>by
  rcases List.mem_cons.1 hb with rfl|hb
  ·exact h.dr.bd
  ·exact(own_lt h.dr.pin (by simpa using hb)).1
 refine DU.mk' hbox (h.hu.turn ht h.lo hge (fun e=> ?_)) (own_same h.dr.ord (fun g hg=>ht.block g (own_lt h.dr.ord hg).2 (fun e=> ?_))) hl (own_same h.dr.lea (fun g hg=>ht.block g (own_lt h.dr.lea hg).2 (fun e=> ?_))) h.dr.bd h.dr.bm (ap_newP h.dr.ap h.dr.lts hb)
 ·rcases List.mem_cons.1 e with e|e
  ·exact a1 e.symm
  ·exact(a3 m (by simpa using e)).2.1 rfl
 ·rcases List.mem_cons.1 e with e|e
  ·exact(a2 g hg).1 e
  ·exact(a2 g hg).2.2.1 (by simpa using e)
 ·rcases List.mem_cons.1 e with e|e
  ·exact(a4 g hg).1 e
  ·exact(a3 g (by simpa using e)).2.2 hg
theorem rowC_append {A:Type} (c:A->List Value) (xs ys:List A):rowC c (xs++ys)=rowC c xs++rowC c ys:=by
 unfold rowC;simp
theorem wrap_sum {a b:Int} (ha:0<=a) (ha1:a<=1000000000) (hb:0<=b) (hb1:b<=1000000000):IntKind.i64.wrap (a+b)=a+b:=by
 simp[IntKind.wrap,IntKind.bits,IntKind.signed];omega
theorem lpush (w:World) (base:Nat) (v:Value) (ls:List Ld) (ho:w.ownsRow base 131 3 v ls.length (rowC lC ls)) (x:Ld) (hn:ls.length<=1000000) (hbase:base<=w.heap.size) (ty:TypeId):
 ∃g cap w',(Builtin.append_ #[36,36] ty #[v,.slice (some ⟨w.heap.size,0,none⟩) 1 1]).run Tryz.prog (w.alloc (.cells #[.int .i64 x.num,.string x.sum,.int .i64 x.til] 131))=.ok (.slice (some ⟨g,0,none⟩) (ls.length+1) cap) w'/\w'.ownsRow base 131 3 (.slice (some ⟨g,0,none⟩) (ls.length+1) cap) (ls++[x]).length (rowC lC (ls++[x]))/\w.grownBy w' v.ownBlock/\(v.ownBlock=some g∨g=w.heap.size+1):=by
 obtain⟨i0,hi,hz0,hz1,hz2⟩:=info_parts Tryz.infoLease;have ho':=own_below ho ((Below.refl _ _).alloc (Nat.le_refl _) (.cells #[.int .i64 x.num,.string x.sum,.int .i64 x.til] 131));have hc:∀j u,(rowC lC [x])[j]?=some u->(w.alloc (.cells #[.int .i64 x.num,.string x.sum,.int .i64 x.til] 131)).cell? ((⟨w.heap.size,0,none⟩:Addr).add j)=some u:=by
  intro j u hu;rw[Go.WideShapes.add_plain,Nat.zero_add];exact(CellsAt.new w [.int .i64 x.num,.string x.sum,.int .i64 x.til] 131 j u (by simpa [rowC,lC] using hu)).1
 obtain⟨v',w',hr,h2,h3,_,h5⟩:=run_append_own_at (P:=Tryz.prog) (w.alloc (.cells #[.int .i64 x.num,.string x.sum,.int .i64 x.til] 131)) base 36 ty 131 i0 _ 3 32 Tryz.underlying36 hi hz0 hz1 hz2 rfl (by decide) v ls.length (rowC lC ls) ho' ⟨w.heap.size,0,none⟩ 1 1 (rowC lC [x]) (by simp[rowC,lC]) hc (by intro u hu;simp[rowC,lC] at hu;rcases hu with rfl|rfl|rfl<;>rfl) (by unfold maxLen;omega) (by omega) (by simp;omega)
 obtain⟨g,cap,rfl,_,_⟩:=own_form h2 (fun e=>by subst e;rcases h2.2 with⟨_,hn⟩|⟨_,_,_,e,_⟩<;>first|omega|cases e);refine⟨g,cap,w',hr,?_,(World.grownBy_alloc w _ _).trans h3,?_⟩
 ·rw[rowC_append,List.length_append]
  exact h2
 ·rcases h5 with h5|h5
  ·exact .inl h5.symm
  ·right
   simpa [Value.ownBlock] using h5
set_option maxRecDepth 20000 in
set_option maxHeartbeats 4000000 in
theorem lend_yes (base d m:Nat) (O P L:Value) (wd now given births:Int) (ks:List Kd) (ps:List Pd) (ls:List Ld) (s:ByteArray) (ticks:Int) (w:World) (h:DU w base d m O P L wd now given births ks ps ls) (hsz:∀k∈ks,(k.sum.size:Int)=wd) (hth:There ks s) (hl:ls.length<200) (hg0:0<=given) (hg1:given<1000000000) (hn0:0<=now) (hn1:now<=1000000000) (ht0:0<=ticks) (ht1:ticks<=1000000000):
 Calls Tryz.prog 144 #[.pointer (some ⟨d,0,none⟩),.string s,.int .i64 ticks] w fun e w'=>e=.returned (.int .i64 (given+1))/\∃L',DU w' base d m O P L' wd now (given+1) births ks ps (ls++[⟨given+1,s,now+ticks⟩])/\Tn (d::L.ownBlock.toList) w w':=by
 have HN:Hid _:=need_yes base d m O P L wd now given births ks ps ls s w h.dr hsz hth;have HD:Hid (DU w base d m O P L wd now given births ks ps ls):=h;have hll:((ls.length:Int)==200)=false:=by simp;omega
 have hgg:(given==1000000000)=false:=by simp;omega
 clear h hsz hth;go_enter Tryz.func144,Tryz.ntmps144;go_wp2_with fail;refine Calls.mono HN.out ?_;rintro e w1 ⟨rfl,hb1⟩;have hD1:=HD.out.below hb1;obtain⟨la,lcp,hLe⟩:=own_val hD1.dr.lea;subst hLe;obtain⟨c2,_⟩:=hD1.dr.box 2 _ rfl;obtain⟨c3,f3⟩:=hD1.dr.box 3 _ rfl;obtain⟨c7,_⟩:=hD1.dr.box 7 _ rfl;obtain⟨X,hX⟩:∃X,X=w1.setCell ⟨d,3,none⟩ (.int .i64 (given+1)):=⟨_,rfl⟩
 have hTX:Tn [d] w1 X:=by rw[hX];exact tn1 _ _ _ _
 have hBX:CellsAt X d [.int .i64 wd,.map (some m),.int .i64 now,.int .i64 (given+1),.int .i64 births,O,P,.slice la ls.length lcp]:=by rw[hX];exact hD1.dr.box.set 3 _
 have hLn:∀g,(Value.slice la ls.length lcp).ownBlock=some g->g≠d:=fun g hg=>((ap_parts hD1.dr.ap).2.2.2 g hg).1;have hlX:X.ownsRow base 131 3 (.slice la ls.length lcp) ls.length (rowC lC ls):=own_same hD1.dr.lea (fun g hg=>hTX.block g (own_lt hD1.dr.lea hg).2 (by simp;exact hLn g hg));have hdX:d<X.heap.size:=hBX.lt;have hloX:base<=X.heap.size:=Nat.le_trans hD1.lo hTX.size
 obtain⟨g8,cap8,w8,hr8,ho8,hg8,hk8⟩:=lpush X.drew base _ ls (own_below hlX ((Below.refl _ _).drew)) ⟨given+1,s,now+ticks⟩ (by omega) hloX 36;dsimp only at hr8
 replace hr8:(Builtin.append_ #[36,36] 36 #[.slice la ls.length lcp,.slice (some ⟨X.heap.size,0,none⟩) 1 1]).run Tryz.prog (X.alloc (.cells #[.int .i64 (given+1),.string s,.int .i64 (now+ticks)] 131)).drew=.ok (.slice (some ⟨g8,0,none⟩) (ls.length+1) cap8) w8:=hr8;have hwr:IntKind.i64.wrap (now+ticks)=now+ticks:=wrap_sum hn0 hn1 ht0 ht1
 have hbA:Below X.heap.size X (X.drew.alloc (.cells #[.int .i64 (given+1),.string s,.int .i64 (now+ticks)] 131)):=(Below.refl _ _).drew.alloc (Nat.le_refl _) _;have hBA:=hBX.below hbA;have HX:Hid _:=hX;have H1:Hid (DU w1 base d m O P (.slice la ls.length lcp) wd now given births ks ps ls):=hD1;have HT1:Hid (Below w.heap.size w w1):=hb1
 have hB8:CellsAt w8 d [.int .i64 wd,.map (some m),.int .i64 now,.int .i64 (given+1),.int .i64 births,O,P,.slice la ls.length lcp]:=CellsAt.same hBX (hg8.block d (by simpa using hdX) (fun e=>hLn d e.symm rfl))
 have H8:Hid (w8.ownsRow base 131 3 (.slice (some ⟨g8,0,none⟩) (ls.length+1) cap8) (ls++[(⟨given+1,s,now+ticks⟩:Ld)]).length (rowC lC (ls++[(⟨given+1,s,now+ticks⟩:Ld)]))/\X.drew.grownBy w8 (Value.slice la ls.length lcp).ownBlock/\((Value.slice la ls.length lcp).ownBlock=some g8∨g8=X.drew.heap.size+1)):=⟨ho8,hg8,hk8⟩
 have HB8:Hid (CellsAt w8 d [.int .i64 wd,.map (some m),.int .i64 now,.int .i64 (given+1),.int .i64 births,O,P,.slice la ls.length lcp]):=hB8;have HTX:Hid (Tn [d] w1 X):=hTX;have HdX:Hid (d<X.heap.size):=hdX;clear hX hD1 hb1 HN HD hTX hlX ho8 hg8 hk8;go_upto_region 5 with fail;rw[←HX.out];clear HX c2 c3 c7 f3;obtain⟨c2,_⟩:=hBX 2 _ rfl;obtain⟨c3,_⟩:=hBX 3 _ rfl;obtain⟨c7,_⟩:=hBX 7 _ rfl
 obtain⟨a2,_⟩:=hBA 2 _ rfl;obtain⟨a3,_⟩:=hBA 3 _ rfl;obtain⟨a7,_⟩:=hBA 7 _ rfl;obtain⟨e7,f7⟩:=hB8 7 _ rfl;clear hBX hBA hB8 hbA
 go_region_law (first
  |(refine step_append_run (by rfl) (.tmp 36) (.tmp 49) 36 36 (by rfl) (by rfl) (by rfl) hr8 ?_))
 all_goals
  clear hr8 c2 c3 c7 a2 a3 a7;have z8:=HB8.out.set 7 (.slice (some ⟨g8,0,none⟩) (ls.length+1) cap8);have z3:=(z8 3 _ rfl).1;have z7:X.heap.size<=w8.heap.size:=by have:=H8.out.2.1.size;simpa using this
  have HZ8:Hid (CellsAt (w8.setCell ⟨d,7,none⟩ (.slice (some ⟨g8,0,none⟩) (ls.length+1) cap8)) d [.int .i64 wd,.map (some m),.int .i64 now,.int .i64 (given+1),.int .i64 births,O,P,.slice (some ⟨g8,0,none⟩) (ls.length+1) cap8]):=z8;clear z8
  have hk:∃L',DU (w8.setCell ⟨d,7,none⟩ (.slice (some ⟨g8,0,none⟩) (ls.length+1) cap8)) base d m O P L' wd now (given+1) births ks ps (ls++[(⟨given+1,s,now+ticks⟩:Ld)])/\Tn (d::(Value.slice la ls.length lcp).ownBlock.toList) w (w8.setCell ⟨d,7,none⟩ (.slice (some ⟨g8,0,none⟩) (ls.length+1) cap8)):=by
   have t1:Tn (d::(Value.slice la ls.length lcp).ownBlock.toList) w1 (w8.setCell ⟨d,7,none⟩ (.slice (some ⟨g8,0,none⟩) (ls.length+1) cap8)):=
    ((HTX.out.mono (by simp)).trans ((Tn.of ((Below.refl _ _).drew)).trans ((tn_grown H8.out.2.1).mono (fun b hb=>List.mem_cons_of_mem _ hb)))).trans ((tn1 w8 d 7 _).mono (by simp))
   have hgd:∀g,(Value.slice (some ⟨g8,0,none⟩) (ls.length+1) cap8).ownBlock=some g->g≠d:=fun g hg=>by
    obtain rfl:g8=g:=by simpa [Value.ownBlock] using hg
    rcases H8.out.2.2 with e|e
    ·exact hLn g8 e
    ·have h1:g8=X.heap.size+1:=e
     have h2:=HdX.out;omega
   have hb8:(Value.slice (some ⟨g8,0,none⟩) (ls.length+1) cap8).ownBlock=(Value.slice la ls.length lcp).ownBlock∨∃g,(Value.slice (some ⟨g8,0,none⟩) (ls.length+1) cap8).ownBlock=some g/\w1.heap.size<=g:=by
    rcases H8.out.2.2 with e|e
    ·exact .inl e.symm
    ·exact .inr ⟨g8,rfl,by have h1:g8=X.heap.size+1:=e;have:=HTX.out.size;omega⟩
   exact⟨_,H1.out.newL t1 HZ8.out (own_set H8.out.1 hgd 7 _) hb8,(Tn.of HT1.out).trans t1⟩
  have HK:Hid _:=hk;clear hk;go_wp2;go_ret;exact⟨rfl,HK.out⟩
end Go.Proofs.YthkmpihfhkmaoaaGreatDoor
namespace Go.Proofs.YthkmpihfhkmaoaaGreatDoor
open Go.ChangeShapes Go.WideShapes Go.ChangeAt Go.RowKit
theorem own_cutR {A:Type} {c:A->List Value} {n:Nat} {e:TypeId} (hn:∀x,(c x).length=n) {w:World} {base g cap:Nat} {ss:List A} (h:w.ownsRow base e n (.slice (some ⟨g,0,none⟩) ss.length cap) ss.length (rowC c ss)) (i:Nat) (hi:i<=ss.length):w.ownsRow base e n (.slice (some ⟨g,0,none⟩) i cap) i (rowC c (ss.take i)):=by
 refine⟨by rw[row_len hn,List.length_take];congr 1;omega,?_⟩;rcases h.2 with⟨e,_⟩|⟨g',cap',cur,e,hb,hg,h1,h2,h3,h4⟩
 ·cases e
 ·cases e
  refine .inr ⟨g,cap,cur,rfl,hb,hg,by omega,h2,h3,?_⟩;rw[←row_take hn ss i hi,←h4,List.take_take];congr 1;exact(Nat.min_eq_left (Nat.mul_le_mul_right n hi)).symm
theorem zeroPin (w:World):(zeroValue 130).run Tryz.prog w=.ok (.agg #[.string ⟨#[]⟩,.string ⟨#[]⟩]) w:=by kernel_rfl
theorem run_clear_Pin (w:World) (ty:TypeId) (b o c:Nat) (hc:∀j,j<2->(w.cell? ⟨b,o+j,none⟩).isSome=true) (hf:∀j,j<2->w.frozen? ⟨b,o+j,none⟩=false):
 (Builtin.clear_ #[35] ty #[.slice (some ⟨b,o,none⟩) 1 c]).run Tryz.prog w=.ok (.tuple #[]) (w.setCells b o [.string ⟨#[]⟩,.string ⟨#[]⟩]):=by
 have hzc:(Builtin.zeroCells (Value.agg #[.string ⟨#[]⟩,.string ⟨#[]⟩]).cells 1).toList=[.string ⟨#[]⟩,.string ⟨#[]⟩]:=by kernel_rfl
 have hst:=run_storeCells_cells (P:=Tryz.prog) b o [.string ⟨#[]⟩,.string ⟨#[]⟩] 0 w (by simpa using hc) (by simpa using hf) (by intro v hv';simp at hv';rcases hv' with rfl|rfl<;>rfl);simp only[Nat.add_zero] at hst;have hzk:=zeroPin;simp[Builtin.clear_,run_underlying Tryz.underlying35,hzk,hzc,hst]
set_option maxRecDepth 20000 in
set_option maxHeartbeats 4000000 in
theorem deletePin_any (g cap i:Nat) (ss:List Pd) (w:World) (base:Nat) (ho:w.ownsRow base 130 2 (.slice (some ⟨g,0,none⟩) ss.length cap) ss.length (rowC pC ss)) (hl:ss.length<=600) (hi:i<ss.length):
 Calls Tryz.prog 173 #[.slice (some ⟨g,0,none⟩) ss.length cap,.int .i64 i,.int .i64 ((i:Int)+1)] w fun e w'=>e=.returned (.slice (some ⟨g,0,none⟩) (ss.length -1) cap)/\w'.ownsRow base 130 2 (.slice (some ⟨g,0,none⟩) (ss.length -1) cap) (ss.length -1) (rowC pC (ss.eraseIdx i))/\w.grownBy w' (some g):=by
 obtain⟨i0,hinf,hz0,hz1,hz2⟩:=info_parts Tryz.infoPin;have hcap:ss.length<=cap/\cap<=maxLen:=by
  rcases ho.2 with⟨e,_⟩|⟨g',cap',cur,e,hb,hg,h1,h2,h3,h4⟩
  ·cases e
  ·cases e;exact⟨h1,h2⟩
 obtain⟨hc1,hc2⟩:=hcap;unfold maxLen at hc2;have hcut:=own_cutR pC_len ho i (by omega);obtain⟨A,hA,hnews⟩:∃A,(if cap=i+1 then some (⟨g,0,none⟩:Addr) else some ⟨g,(i+1) *2,none⟩)=some A/\∀j u,(rowC pC (ss.drop (i+1)))[j]?=some u->w.drew.cell? (A.add j)=some u:=by
  by_cases h:cap=i+1
  ·refine⟨⟨g,0,none⟩,by rw[if_pos h],fun j u hu=> ?_⟩
   rw[List.drop_of_length_le (by omega)] at hu;simp[rowC] at hu
  ·refine⟨⟨g,(i+1) *2,none⟩,by rw[if_neg h],fun j u hu=> ?_⟩
   rw[Go.WideShapes.add_plain];rw[←row_drop pC_len ss (i+1) (by omega),List.getElem?_drop] at hu;have hlt:=(List.getElem?_eq_some_iff.1 hu).1;rw[row_len pC_len] at hlt;exact(ho.cellAt _ (by omega)).trans hu
 obtain⟨w1,hr,ho1,hg1⟩:=run_append_fits (P:=Tryz.prog) w.drew base 35 35 130 i0 2 Tryz.underlying35 hinf hz1 g i cap (rowC pC (ss.take i)) hcut A (ss.length -(i+1)) (cap -(i+1)) (rowC pC (ss.drop (i+1))) (by rw[row_len pC_len,List.length_drop]) hnews (oneP _) (by omega);rw[←row_append,show i+(ss.length -(i+1))=ss.length -1 by omega] at ho1;rw[show i+(ss.length -(i+1))=ss.length -1 by omega] at hr
 have hee:ss.take i++ss.drop (i+1)=ss.eraseIdx i:=(List.eraseIdx_eq_take_drop_succ ss i).symm;rw[hee] at ho1;have HO:Hid _:=And.intro ho1 hg1;clear hnews ho1 hcut hee;go_enter Tryz.func173,Tryz.ntmps173;have hi1:¬((i:Int)==(i:Int)+1)=true:=by simp;omega
 have hic:i<=cap:=by omega
 have hp0:(0:Int)<=(i:Int)+1:=by omega
 have hp1:(i:Int)+1<=(ss.length:Int):=by omega
 have hp2:((i:Int)+1).toNat=i+1:=by omega
 go_upto_region 5 with fail
 go_region_law (first
  |(refine step_append_run (by rfl) (.tmp 22) (.tmp 25) 35 35 (by rfl) (by rfl) (by simp[Act.eval,Act.put]) hr ?_))
 all_goals
  have hf1:∀j,j<2->(w1.cell? ⟨g,(ss.length -1) *2+j,none⟩).isSome=true/\w1.frozen? ⟨g,(ss.length -1) *2+j,none⟩=false:=fun j hj=>by
   obtain⟨ho1,hg1⟩:=HO.out;rcases ho1.2 with⟨e,_⟩|⟨g',cap',cur,e,hb,hg,h1,h2,h3,h4⟩
   ·cases e
   ·cases e
    constructor
    ·simp only[World.cell?,hg]
     rw[Array.getElem?_eq_getElem (by omega)];rfl
    ·exact ho1.frozenAt _
  have hclr:=run_clear_Pin w1 0 g ((ss.length -1) *2) (cap -(ss.length -1)) (fun j hj=>(hf1 j hj).1) (fun j hj=>(hf1 j hj).2);have e1:ss.length -(ss.length -1)=1:=by omega
  have e2:¬cap=ss.length -1:=by omega
  have e3:ss.length -1<=ss.length:=by omega
  go_wp2;go_ret;obtain⟨ho1,hg1⟩:=HO.out;exact⟨rfl,own_past _ _ _ ho1 (Nat.le_refl _),grown_trans (grown_undrew hg1) (grown_setC g _ _ _)⟩
theorem zeroLease (w:World):(zeroValue 131).run Tryz.prog w=.ok (.agg #[.int .i64 0,.string ⟨#[]⟩,.int .i64 0]) w:=by kernel_rfl
theorem run_clear_Lease (w:World) (ty:TypeId) (b o c:Nat) (hc:∀j,j<3->(w.cell? ⟨b,o+j,none⟩).isSome=true) (hf:∀j,j<3->w.frozen? ⟨b,o+j,none⟩=false):
 (Builtin.clear_ #[36] ty #[.slice (some ⟨b,o,none⟩) 1 c]).run Tryz.prog w=.ok (.tuple #[]) (w.setCells b o [.int .i64 0,.string ⟨#[]⟩,.int .i64 0]):=by
 have hzc:(Builtin.zeroCells (Value.agg #[.int .i64 0,.string ⟨#[]⟩,.int .i64 0]).cells 1).toList=[.int .i64 0,.string ⟨#[]⟩,.int .i64 0]:=by kernel_rfl
 have hst:=run_storeCells_cells (P:=Tryz.prog) b o [.int .i64 0,.string ⟨#[]⟩,.int .i64 0] 0 w (by simpa using hc) (by simpa using hf) (by intro v hv';simp at hv';rcases hv' with rfl|rfl|rfl<;>rfl);simp only[Nat.add_zero] at hst;have hzk:=zeroLease;simp[Builtin.clear_,run_underlying Tryz.underlying36,hzk,hzc,hst]
set_option maxRecDepth 20000 in
set_option maxHeartbeats 4000000 in
theorem deleteLease_any (g cap i:Nat) (ss:List Ld) (w:World) (base:Nat) (ho:w.ownsRow base 131 3 (.slice (some ⟨g,0,none⟩) ss.length cap) ss.length (rowC lC ss)) (hl:ss.length<=600) (hi:i<ss.length):
 Calls Tryz.prog 177 #[.slice (some ⟨g,0,none⟩) ss.length cap,.int .i64 i,.int .i64 ((i:Int)+1)] w fun e w'=>e=.returned (.slice (some ⟨g,0,none⟩) (ss.length -1) cap)/\w'.ownsRow base 131 3 (.slice (some ⟨g,0,none⟩) (ss.length -1) cap) (ss.length -1) (rowC lC (ss.eraseIdx i))/\w.grownBy w' (some g):=by
 obtain⟨i0,hinf,hz0,hz1,hz2⟩:=info_parts Tryz.infoLease;have hcap:ss.length<=cap/\cap<=maxLen:=by
  rcases ho.2 with⟨e,_⟩|⟨g',cap',cur,e,hb,hg,h1,h2,h3,h4⟩
  ·cases e
  ·cases e;exact⟨h1,h2⟩
 obtain⟨hc1,hc2⟩:=hcap;unfold maxLen at hc2;have hcut:=own_cutR lC_len ho i (by omega);obtain⟨A,hA,hnews⟩:∃A,(if cap=i+1 then some (⟨g,0,none⟩:Addr) else some ⟨g,(i+1) *3,none⟩)=some A/\∀j u,(rowC lC (ss.drop (i+1)))[j]?=some u->w.drew.cell? (A.add j)=some u:=by
  by_cases h:cap=i+1
  ·refine⟨⟨g,0,none⟩,by rw[if_pos h],fun j u hu=> ?_⟩
   rw[List.drop_of_length_le (by omega)] at hu;simp[rowC] at hu
  ·refine⟨⟨g,(i+1) *3,none⟩,by rw[if_neg h],fun j u hu=> ?_⟩
   rw[Go.WideShapes.add_plain];rw[←row_drop lC_len ss (i+1) (by omega),List.getElem?_drop] at hu;have hlt:=(List.getElem?_eq_some_iff.1 hu).1;rw[row_len lC_len] at hlt;exact(ho.cellAt _ (by omega)).trans hu
 obtain⟨w1,hr,ho1,hg1⟩:=run_append_fits (P:=Tryz.prog) w.drew base 36 36 131 i0 3 Tryz.underlying36 hinf hz1 g i cap (rowC lC (ss.take i)) hcut A (ss.length -(i+1)) (cap -(i+1)) (rowC lC (ss.drop (i+1))) (by rw[row_len lC_len,List.length_drop]) hnews (oneL _) (by omega);rw[←row_append,show i+(ss.length -(i+1))=ss.length -1 by omega] at ho1;rw[show i+(ss.length -(i+1))=ss.length -1 by omega] at hr
 have hee:ss.take i++ss.drop (i+1)=ss.eraseIdx i:=(List.eraseIdx_eq_take_drop_succ ss i).symm;rw[hee] at ho1;have HO:Hid _:=And.intro ho1 hg1;clear hnews ho1 hcut hee;go_enter Tryz.func177,Tryz.ntmps177;have hi1:¬((i:Int)==(i:Int)+1)=true:=by simp;omega
 have hic:i<=cap:=by omega
 have hp0:(0:Int)<=(i:Int)+1:=by omega
 have hp1:(i:Int)+1<=(ss.length:Int):=by omega
 have hp2:((i:Int)+1).toNat=i+1:=by omega
 go_upto_region 5 with fail
 go_region_law (first
  |(refine step_append_run (by rfl) (.tmp 22) (.tmp 25) 36 36 (by rfl) (by rfl) (by simp[Act.eval,Act.put]) hr ?_))
 all_goals
  have hf1:∀j,j<3->(w1.cell? ⟨g,(ss.length -1) *3+j,none⟩).isSome=true/\w1.frozen? ⟨g,(ss.length -1) *3+j,none⟩=false:=fun j hj=>by
   obtain⟨ho1,hg1⟩:=HO.out;rcases ho1.2 with⟨e,_⟩|⟨g',cap',cur,e,hb,hg,h1,h2,h3,h4⟩
   ·cases e
   ·cases e
    constructor
    ·simp only[World.cell?,hg]
     rw[Array.getElem?_eq_getElem (by omega)];rfl
    ·exact ho1.frozenAt _
  have hclr:=run_clear_Lease w1 0 g ((ss.length -1) *3) (cap -(ss.length -1)) (fun j hj=>(hf1 j hj).1) (fun j hj=>(hf1 j hj).2);have e1:ss.length -(ss.length -1)=1:=by omega
  have e2:¬cap=ss.length -1:=by omega
  have e3:ss.length -1<=ss.length:=by omega
  go_wp2;go_ret;obtain⟨ho1,hg1⟩:=HO.out;exact⟨rfl,own_past _ _ _ ho1 (Nat.le_refl _),grown_trans (grown_undrew hg1) (grown_setC g _ _ _)⟩
end Go.Proofs.YthkmpihfhkmaoaaGreatDoor
namespace Go.Proofs.YthkmpihfhkmaoaaGreatDoor
open Go.ChangeShapes Go.WideShapes Go.ChangeAt Go.RowKit
def cmpI (x y:Int):Int:=if x<y then -1 else if y<x then 1 else 0
theorem cmpI_neg (x y:Int):cmpI x y<0↔x<y:=by unfold cmpI;split<;>(try split)<;>omega
theorem cmpI_zero (x y:Int):cmpI x y=0↔x=y:=by unfold cmpI;split<;>(try split)<;>omega
set_option maxHeartbeats 1000000 in
theorem nanI_any (x:Int) (w:World):Calls Tryz.prog 204 #[.int .i64 x] w fun e w'=>e=.returned (.bool false)/\w'=w:=by
 have hq:(x !=x)=false:=by simp
 go_enter Tryz.func204,Tryz.ntmps204;go_wp2;go_ret;exact⟨rfl,rfl⟩
set_option maxHeartbeats 1000000 in
theorem cmpI_any (x y:Int) (w:World):Calls Tryz.prog 176 #[.int .i64 x,.int .i64 y] w fun e w'=>e=.returned (.int .i64 (cmpI x y))/\w'=w:=by
 go_enter Tryz.func176,Tryz.ntmps176;go_wp2_with fail;refine(nanI_any x w).mono ?_;rintro e w1 ⟨rfl,rfl⟩;go_wp2_with fail;refine(nanI_any y w1).mono ?_;rintro e w2 ⟨rfl,rfl⟩;by_cases h1:x<y
 ·have hd:decide (x<y)=true:=by simpa using h1
  have hv:cmpI x y= -1:=by unfold cmpI;rw[if_pos h1]
  clear h1;go_wp2;go_ret;exact⟨by rw[hv];rfl,rfl⟩
 ·have hd:decide (x<y)=false:=by simpa using h1
  by_cases h2:y<x
  ·have hd2:decide (y<x)=true:=by simpa using h2
   have hv:cmpI x y=1:=by unfold cmpI;rw[if_neg h1,if_pos h2]
   clear h1 h2;go_wp2;go_ret;exact⟨by rw[hv];rfl,rfl⟩
  ·have hd2:decide (y<x)=false:=by simpa using h2
   have hv:cmpI x y=0:=by unfold cmpI;rw[if_neg h1,if_neg h2]
   clear h1 h2;go_wp2;go_ret;exact⟨by rw[hv];rfl,rfl⟩
def cmpS (x y:ByteArray):Int:=if less x y=true then -1 else if x=y then 0 else 1
theorem cmpS_neg (x y:ByteArray):cmpS x y<0↔less x y=true:=by
 unfold cmpS;by_cases h:less x y=true
 ·rw[if_pos h];exact⟨fun _=>h,fun _=>by omega⟩
 ·rw[if_neg h]
  refine⟨fun e=> ?_,fun e=>absurd e h⟩;split at e<;>omega
theorem cmpS_zero (x y:ByteArray):cmpS x y=0↔x=y:=by
 unfold cmpS;by_cases h:less x y=true
 ·rw[if_pos h]
  refine⟨fun e=>by omega,fun e=> ?_⟩;rw[e,less_irrefl] at h;cases h
 ·rw[if_neg h]
  split
  ·rename_i h2;exact⟨fun _=>h2,fun _=>rfl⟩
  ·rename_i h2;exact⟨fun e=>by omega,fun e=>absurd e h2⟩
set_option maxHeartbeats 1000000 in
theorem nanS_any (x:ByteArray) (w:World):Calls Tryz.prog 230 #[.string x] w fun e w'=>e=.returned (.bool false)/\w'=w:=by
 have hq:(x.toList !=x.toList)=false:=by simp
 go_enter Tryz.func230,Tryz.ntmps230;go_wp2;go_ret;exact⟨rfl,rfl⟩
set_option maxHeartbeats 1000000 in
theorem cmpS_any (x y:ByteArray) (w:World):Calls Tryz.prog 201 #[.string x,.string y] w fun e w'=>e=.returned (.int .i64 (cmpS x y))/\w'=w:=by
 go_enter Tryz.func201,Tryz.ntmps201;go_wp2_with fail;refine(nanS_any x w).mono ?_;rintro e w1 ⟨rfl,rfl⟩;go_wp2_with fail;refine(nanS_any y w1).mono ?_;rintro e w2 ⟨rfl,rfl⟩;cases h1:Op.bytesLess x.toList y.toList with
 |true=>
  have HV:Hid (cmpS x y= -1):=by show _=_;unfold cmpS less;rw[if_pos h1]
  go_wp2;go_ret;exact⟨by rw[HV.out];rfl,rfl⟩
 |false=>
  by_cases h2:x=y
  ·have HV:Hid (cmpS x y=0):=(cmpS_zero x y).2 h2
   have hq:(x.toList==y.toList)=true:=by rw[h2];simp
   clear h2;go_wp2;go_ret;exact⟨by rw[HV.out];rfl,rfl⟩
  ·have HV:Hid (cmpS x y=1):=by show _=_;unfold cmpS less;rw[if_neg (by rw[h1];simp),if_neg h2]
   have hq:(x.toList==y.toList)=false:=beq_ne h2;clear h2;go_wp2;go_ret;exact⟨by rw[HV.out];rfl,rfl⟩
set_option maxHeartbeats 1000000 in
theorem give1_any (x:Ld) (n:Int) (w:World):Calls Tryz.prog 175 #[.agg #[.int .i64 x.num,.string x.sum,.int .i64 x.til],.int .i64 n] w fun e w'=>e=.returned (.int .i64 (cmpI x.num n))/\Below w.heap.size w w':=by
 have hA:∀o,Below w.heap.size w (w.alloc o):=fun o=>(Below.refl _ _).alloc (Nat.le_refl _) _;go_enter Tryz.func175,Tryz.ntmps175;go_wp2_with fail;refine(cmpI_any x.num n _).mono ?_;rintro e w1 ⟨rfl,rfl⟩;go_wp2;go_ret;exact⟨rfl,hA _⟩
set_option maxHeartbeats 1000000 in
theorem place1_any (x:Pd) (n:ByteArray) (w:World):Calls Tryz.prog 200 #[.agg #[.string x.name,.string x.sum],.string n] w fun e w'=>e=.returned (.int .i64 (cmpS x.name n))/\Below w.heap.size w w':=by
 have hA:∀o,Below w.heap.size w (w.alloc o):=fun o=>(Below.refl _ _).alloc (Nat.le_refl _) _;go_enter Tryz.func200,Tryz.ntmps200;go_wp2_with fail;refine(cmpS_any x.name n _).mono ?_;rintro e w1 ⟨rfl,rfl⟩;go_wp2;go_ret;exact⟨rfl,hA _⟩
structure PlaceN (ls:List Ld) (n:Int) (i:Nat):Prop where
 le:i<=ls.length
 lo:∀j x,j<i->ls[j]?=some x->x.num<n
 hi:∀j x,i<=j->ls[j]?=some x->n<=x.num
set_option maxRecDepth 20000 in
set_option maxHeartbeats 4000000 in
theorem searchLease_any (g cap:Nat) (ls:List Ld) (n:Int) (w:World) (base:Nat) (ho:w.ownsRow base 131 3 (.slice (some ⟨g,0,none⟩) ls.length cap) ls.length (rowC lC ls)) (hl:ls.length<=600) (hsort:ls.Pairwise (fun a b=>a.num<b.num)):
 Calls Tryz.prog 174 #[.slice (some ⟨g,0,none⟩) ls.length cap,.int .i64 n,.func (.func 175) #[] #[]] w fun e w'=>∃i:Nat,e=.returned (.tuple #[.int .i64 i,.bool (decide (∃x,ls[i]?=some x/\x.num=n))])/\PlaceN ls n i/\Below w.heap.size w w':=by
 have hgl:g<w.heap.size:=(own_lt ho rfl).2;have HO:Hid (w.ownsRow base 131 3 (.slice (some ⟨g,0,none⟩) ls.length cap) ls.length (rowC lC ls)):=ho;have HR:Hid (∀(X:World),Below w.heap.size w X->∀k x,ls[k]?=some x->X.cell? ⟨g,k *3,none⟩=some (.int .i64 x.num)/\X.cell? ⟨g,k *3+1,none⟩=some (.string x.sum)/\X.cell? ⟨g,k *3+2,none⟩=some (.int .i64 x.til)):=fun X hX k x hx=>by
  have h:=own_below ho hX;have hk:=(List.getElem?_eq_some_iff.1 hx).1;have hc:∀j,j<3->X.cell? ⟨g,k *3+j,none⟩=(lC x)[j]?:=fun j hj=>(h.cellAt (k *3+j) (by omega)).trans (row_get lC_len hx hj);exact⟨by simpa [lC] using hc 0 (by decide),by simpa [lC] using hc 1 (by decide),by simpa [lC] using hc 2 (by decide)⟩
 have HS:Hid (ls.Pairwise (fun a b=>a.num<b.num)):=hsort;clear ho hsort;go_enter Tryz.func174,Tryz.ntmps174;have hef:∀args w,(callFunc 175 args).run Tryz.prog w=.ok (.enter 175 args) w:=enters_of Tryz.func175 (by kernel_rfl) rfl;go_wp2
 go_loopw [9,10] (fun i j wr=>∃lo hi:Nat,i=.int .i64 lo/\j=.int .i64 hi/\lo<=hi/\hi<=ls.length/\Hid ((∀j x,j<lo->ls[j]?=some x->x.num<n)/\(∀j x,hi<=j->ls[j]?=some x->n<=x.num))/\Below w.heap.size w wr) (fun i j _=>(intOf j).toNat -(intOf i).toNat)
 case atStart=>exact⟨0,ls.length,rfl,rfl,Nat.zero_le _,Nat.le_refl _,⟨fun j x h=>by omega,fun j x h hx=>by have:=(List.getElem?_eq_some_iff.1 hx).1;omega⟩,Below.refl _ _⟩
 case round=>
  obtain⟨lo,hi,rfl,rfl,hlh,hin,HI,hbel⟩:=hrel;have hzr:=hbel.size;by_cases hlt:lo<hi
  ·have hml:(lo+hi)/2<ls.length:=by omega
   have HG:Hid (ls[(lo+hi)/2]?=some ls[(lo+hi)/2]):=List.getElem?_eq_getElem hml;generalize ls[(lo+hi)/2]=x at *
   obtain⟨r0,r1,r2⟩:=HR.out wr hbel _ _ HG.out;go_wp2_with fail;refine(give1_any x n wr).mono ?_;rintro e w1 ⟨rfl,hb1⟩;have hB1:=hbel.trans (hb1.mono hzr);clear r0 r1 r2;by_cases hc:x.num<n
   ·have hd:decide (cmpI x.num n<0)=true:=by simpa using (cmpI_neg _ _).2 hc
    have HC:Hid (x.num<n):=hc;clear hc;generalize cmpI x.num n=cv at *
    go_wp2;refine⟨⟨(lo+hi)/2+1,hi,by go_num,rfl,by omega,hin,⟨?_,HI.out.2⟩,hB1⟩,by simp[intOf];omega⟩;intro j y hj hy;rcases Nat.lt_or_ge j ((lo+hi)/2) with h|h
    ·have:=List.pairwise_iff_getElem.1 HS.out j ((lo+hi)/2) (by omega) hml h
     obtain⟨_,rfl⟩:=List.getElem?_eq_some_iff.1 hy;obtain⟨_,e⟩:=List.getElem?_eq_some_iff.1 HG.out;rw[e] at this;have h3:=HC.out;omega
    ·obtain rfl:j=(lo+hi)/2:=by omega
     rw[HG.out] at hy;cases hy;exact HC.out
   ·have hd:decide (cmpI x.num n<0)=false:=by simpa using fun e=>hc ((cmpI_neg _ _).1 e)
    have HC:Hid (n<=x.num):=Int.not_lt.1 hc;clear hc;generalize cmpI x.num n=cv at *
    go_wp2;refine⟨⟨lo,(lo+hi)/2,rfl,by go_num,by omega,by omega,⟨HI.out.1,?_⟩,hB1⟩,by simp[intOf];omega⟩;intro j y hj hy;rcases Nat.lt_or_ge ((lo+hi)/2) j with h|h
    ·have hjl:=(List.getElem?_eq_some_iff.1 hy).1
     have:=List.pairwise_iff_getElem.1 HS.out ((lo+hi)/2) j hml hjl h;obtain⟨_,rfl⟩:=List.getElem?_eq_some_iff.1 hy;obtain⟨_,e⟩:=List.getElem?_eq_some_iff.1 HG.out;rw[e] at this;have h3:=HC.out;omega
    ·obtain rfl:j=(lo+hi)/2:=by omega
     rw[HG.out] at hy;cases hy;exact HC.out
  ·obtain rfl:lo=hi:=by omega
   have HP:Hid (PlaceN ls n lo):=⟨hin,HI.out.1,HI.out.2⟩;by_cases hn:lo<ls.length
   ·have HG:Hid (ls[lo]?=some ls[lo]):=List.getElem?_eq_getElem hn
    generalize ls[lo]=x at *
    obtain⟨r0,r1,r2⟩:=HR.out wr hbel _ _ HG.out;have hn':(lo:Int)<ls.length:=by omega
    go_wp2_with fail;refine(give1_any x n wr).mono ?_;rintro e w1 ⟨rfl,hb1⟩;have hB1:=hbel.trans (hb1.mono hzr);clear r0 r1 r2;have HD:Hid (decide (∃y,ls[lo]?=some y/\y.num=n)=(cmpI x.num n==0)):=by
     show _=_;rw[HG.out];by_cases h:x.num=n
     ·rw[(cmpI_zero x.num n).2 h]
      simp[h]
     ·have h0:¬cmpI x.num n=0:=fun e=>h ((cmpI_zero x.num n).1 e)
      rw[show(cmpI x.num n==0)=false by simpa using h0];simp[h]
    generalize cmpI x.num n=cv at *
    go_wp2
    go_ret2
    exact⟨lo,by rw[HD.out];first|rfl|simp[Act.put],HP.out,hB1⟩
   ·have HD:Hid (decide (∃y,ls[lo]?=some y/\y.num=n)=false):=by
     show _=_;rw[List.getElem?_eq_none (by omega)];simp
    have hn':¬((lo:Int)<ls.length):=by omega
    go_wp2
    go_ret2
    exact⟨lo,by rw[HD.out];first|rfl|simp[Act.put],HP.out,hbel⟩
end Go.Proofs.YthkmpihfhkmaoaaGreatDoor
