import Derived.Test.YthkmpihfhkmaoaaGreatDoorV04
import Derived.Test.YthkmpihfhkmaoaaGreatDoorV05
import Derived.Test.YthkmpihfhkmaoaaGreatDoorV06
import Derived.Deep.RegionHeld3
import Derived.Deep.RegionLaw
namespace Go.Proofs.YthkmpihfhkmaoaaGreatDoor
open Go.ChangeShapes Go.WideShapes Go.ChangeAt Go.RowKit
theorem sq7 {w:World} {b:Nat} {wd now given births:Int} {T P L:Value} (h:SBox w b wd now given births T P L):w.cell? ⟨b,0,none⟩=some (.int .i64 wd)/\w.cell? ⟨b,1,none⟩=some (.int .i64 now)/\w.cell? ⟨b,2,none⟩=some (.int .i64 given)/\w.cell? ⟨b,3,none⟩=some (.int .i64 births)/\w.cell? ⟨b,4,none⟩=some T/\w.cell? ⟨b,5,none⟩=some P/\w.cell? ⟨b,6,none⟩=some L:=
 ⟨h.1,h.2.1,h.2.2.1,h.2.2.2.1,h.2.2.2.2.1,h.2.2.2.2.2.1,h.2.2.2.2.2.2.1⟩
def vB (d m:Nat) (O P L:Value):List Nat:=d::m::(O.ownBlock.toList++(P.ownBlock.toList++L.ownBlock.toList))
def RefV (w:World) (base:Nat) (V:List Nat) (a:Option Addr) (ss:List ByteArray):Prop:=
 ss=[]∨∃b off,a=some ⟨b,off,none⟩/\b<w.heap.size/\b∉V/\(b<base∨∃cur fz,w.heap[b]?=some (.cells cur 9 fz))/\∀i s,ss[i]?=some s->w.cell? ⟨b,off+i,none⟩=some (.string s)
theorem RefV.row {w:World} {base:Nat} {V:List Nat} {a:Option Addr} {ss:List ByteArray} (h:RefV w base V a ss):SRow w w.heap.size a ss:=by
 rcases h with h|⟨b,off,ha,hb,_,_,hc⟩
 ·exact .inl h
 ·exact .inr ⟨b,off,ha,hb,hc⟩
def HoldsV (w:World) (base:Nat) (V:List Nat) (wd:Int) (ks:List Kd) (f:Lit->Option Value):Prop:=
 ∀s:ByteArray,(s.size:Int)=wd->(f (keyL s)=none/\¬There ks s)∨∃u ra rc,u∈ks/\u.sum=s/\f (keyL s)=some (keptV u ra rc)/\RefV w base V ra u.refs
theorem HoldsV.of {W w:World} {V:List Nat} {wd:Int} {ks:List Kd} {f:Lit->Option Value} (h:Holds W W.heap.size wd ks f) (hb:Below W.heap.size W w) (hV:∀b∈V,W.heap.size<=b):HoldsV w W.heap.size V wd ks f:=by
 intro s hs;rcases h s hs with h|⟨u,ra,rc,h1,h2,h3,h4⟩
 ·exact .inl h
 ·refine .inr ⟨u,ra,rc,h1,h2,h3,?_⟩
  rcases h4 with h4|⟨b,off,ha,hlt,hc⟩
  ·exact .inl h4
  ·exact .inr ⟨b,off,ha,Nat.lt_of_lt_of_le hlt hb.size,fun hv=>by have:=hV b hv;omega,.inl hlt,fun i s hs=>(hb.cell (p:=⟨b,off+i,none⟩) hlt).trans (hc i s hs)⟩
structure Dr (w:World) (base d m:Nat) (O P L:Value) (wd now given births:Int) (ks:List Kd) (ps:List Pd) (ls:List Ld):Prop where
 box:CellsAt w d [.int .i64 wd,.map (some m),.int .i64 now,.int .i64 given,.int .i64 births,O,P,L]
 map:∃n f,n<=1000000/\KMap w 162 m n f/\HoldsV w base (vB d m O P L) wd ks f
 ord:w.ownsRow base 162 8 O ks.length (cells8 (ks.map (·.sum)))
 pin:w.ownsRow base 130 2 P ps.length (rowC pC ps)
 lea:w.ownsRow base 131 3 L ls.length (rowC lC ls)
 bd:base<=d
 bm:base<=m
 ap:(vB d m O P L).Nodup
theorem HoldsV.below {w w':World} {base:Nat} {V:List Nat} {wd:Int} {ks:List Kd} {f:Lit->Option Value} (h:HoldsV w base V wd ks f) (hb:Below w.heap.size w w'):HoldsV w' base V wd ks f:=by
 intro s hs;rcases h s hs with h|⟨u,ra,rc,h1,h2,h3,h4⟩
 ·exact .inl h
 ·refine .inr ⟨u,ra,rc,h1,h2,h3,?_⟩
  rcases h4 with h4|⟨b,off,ha,hlt,hv,ht,hc⟩
  ·exact .inl h4
  ·exact .inr ⟨b,off,ha,Nat.lt_of_lt_of_le hlt hb.size,hv,(by rw[hb.block b hlt];exact ht),fun i s hs=>(hb.cell (p:=⟨b,off+i,none⟩) hlt).trans (hc i s hs)⟩
theorem own_below {w w':World} {base:Nat} {e:TypeId} {size:Nat} {v:Value} {n:Nat} {xs:List Value} (h:w.ownsRow base e size v n xs) (hb:Below w.heap.size w w'):w'.ownsRow base e size v n xs:=by
 refine⟨h.1,?_⟩;rcases h.2 with hn|⟨g,cap,cur,hv,hb1,hg,rest⟩
 ·exact .inl hn
 ·exact .inr ⟨g,cap,cur,hv,hb1,(hb.block g (Array.getElem?_eq_some_iff.1 hg).1).trans hg,rest⟩
theorem Dr.below {w w':World} {base d m:Nat} {O P L:Value} {wd now given births:Int} {ks:List Kd} {ps:List Pd} {ls:List Ld} (h:Dr w base d m O P L wd now given births ks ps ls) (hb:Below w.heap.size w w'):Dr w' base d m O P L wd now given births ks ps ls:=by
 obtain⟨n,f,h1,h2,h3⟩:=h.map;exact⟨h.box.below hb,⟨n,f,h1,h2.keep hb h2.lt,h3.below hb⟩,own_below h.ord hb,own_below h.pin hb,own_below h.lea hb,h.bd,h.bm,h.ap⟩
theorem own_lt {w:World} {base:Nat} {e:TypeId} {size:Nat} {v:Value} {n:Nat} {xs:List Value} (h:w.ownsRow base e size v n xs) {g:Nat} (hg:v.ownBlock=some g):base<=g/\g<w.heap.size:=by
 rcases h.2 with⟨rfl,_⟩|⟨g',cap,cur,rfl,hb,hg',_⟩
 ·cases hg
 ·cases hg
  exact⟨hb,(Array.getElem?_eq_some_iff.1 hg').1⟩
theorem own_at {w w':World} {base B:Nat} {e:TypeId} {size:Nat} {v:Value} {n:Nat} {xs:List Value} (h:w.ownsRow base e size v n xs) (hb:Below B w w') (hB:∀g,v.ownBlock=some g->g<B):w'.ownsRow base e size v n xs:=by
 refine⟨h.1,?_⟩;rcases h.2 with hn|⟨g,cap,cur,rfl,hb1,hg,rest⟩
 ·exact .inl hn
 ·exact .inr ⟨g,cap,cur,rfl,hb1,(hb.block g (hB g rfl)).trans hg,rest⟩
theorem opush (w:World) (base:Nat) (v:Value) (ss:List ByteArray) (ho:w.ownsRow base 162 8 v ss.length (cells8 ss)) (s:ByteArray) (hn:ss.length<=1000000) (hbase:base<=w.heap.size) (ty:TypeId):
 ∃g cap w',(Builtin.append_ #[158,158] ty #[v,.slice (some ⟨w.heap.size,0,none⟩) 1 1]).run Tryz.prog (w.alloc (oneK s))=.ok (.slice (some ⟨g,0,none⟩) (ss.length+1) cap) w'/\w'.ownsRow base 162 8 (.slice (some ⟨g,0,none⟩) (ss.length+1) cap) (ss++[s]).length (cells8 (ss++[s]))/\w.grownBy w' v.ownBlock/\(v.ownBlock=some g∨g=w.heap.size+1):=by
 obtain⟨i0,hi,hz0,hz1,hz2⟩:=info_parts Tryz.infoKey;have ho':=own_below ho ((Below.refl _ _).alloc (Nat.le_refl _) (oneK s));have h1:=R8.one w s;have hc:∀j u,(cells8 [s])[j]?=some u->(w.alloc (oneK s)).cell? ((⟨w.heap.size,0,none⟩:Addr).add j)=some u:=by
  rcases h1 with⟨e,_⟩|⟨g,off,cap,e,_,hc⟩
  ·cases e
  ·cases e
   exact R8.cells hc
 obtain⟨v',w',hr,h2,h3,_,h5⟩:=run_append_own_at (P:=Tryz.prog) (w.alloc (oneK s)) base 158 ty 162 i0 _ 8 8 Tryz.underlying158 hi hz0 hz1 hz2 rfl (by decide) v ss.length (cells8 ss) ho' ⟨w.heap.size,0,none⟩ 1 1 (cells8 [s]) (cells8_len [s]) hc (cells8_one [s]) (by unfold maxLen;omega) (by omega) (by simp;omega)
 obtain⟨g,cap,rfl,_,_⟩:=own_form h2 (fun e=>by subst e;rcases h2.2 with⟨_,hn⟩|⟨_,_,_,e,_⟩<;>first|omega|cases e);refine⟨g,cap,w',hr,?_,(World.grownBy_alloc w (oneK s) _).trans h3,?_⟩
 ·rw[cells8_append,List.length_append]
  exact h2
 ·rcases h5 with h5|h5
  ·exact .inl h5.symm
  ·right
   simpa [Value.ownBlock] using h5
set_option maxRecDepth 20000 in
set_option maxHeartbeats 8000000 in
theorem draftOf_any (wd now given births:Int) (a p l:Option Addr) (ac pc lc:Nat) (ks:List Kd) (ps:List Pd) (ls:List Ld) (w:World) (hrow:SRows w w.heap.size a p l ks ps ls) (hk:ks.length<=600) (hp:ps.length<=100) (hl:ls.length<=200) (hsz:∀k∈ks,(k.sum.size:Int)=wd) (h8:wd<=8):
 Calls Tryz.prog 44 #[.agg #[.int .i64 wd,.int .i64 now,.int .i64 given,.int .i64 births,.slice a ks.length ac,.slice p ps.length pc,.slice l ls.length lc]] w fun e w'=>∃d m O P L,e=.returned (.pointer (some ⟨d,0,none⟩))/\Dr w' (w.heap.size+1) d m O P L wd now given births ks ps ls/\Below w.heap.size w w':=by
 have hx:=SBox.new w wd now given births (.slice a ks.length ac) (.slice p ps.length pc) (.slice l ls.length lc) 38;obtain⟨W0,hW0⟩:∃W,W=w.alloc (.cells #[.int .i64 wd,.int .i64 now,.int .i64 given,.int .i64 births,.slice a ks.length ac,.slice p ps.length pc,.slice l ls.length lc] 38):=⟨_,rfl⟩;have hB0:Below w.heap.size w W0:=by rw[hW0];exact(Below.refl _ _).alloc (Nat.le_refl _) _
 have hz0:W0.heap.size=w.heap.size+1:=by rw[hW0];simp
 rw[←hW0] at hx;have HROW:Hid _:=hrow;have HX:Hid _:=hx;have HW0:Hid _:=hW0;have S0:=sq7 hx
 have S0d:W0.drew.cell? ⟨w.heap.size,0,none⟩=some (.int .i64 wd)/\W0.drew.cell? ⟨w.heap.size,1,none⟩=some (.int .i64 now)/\W0.drew.cell? ⟨w.heap.size,2,none⟩=some (.int .i64 given)/\W0.drew.cell? ⟨w.heap.size,3,none⟩=some (.int .i64 births)/\W0.drew.cell? ⟨w.heap.size,4,none⟩=some (.slice a ks.length ac)/\W0.drew.cell? ⟨w.heap.size,5,none⟩=some (.slice p ps.length pc)/\W0.drew.cell? ⟨w.heap.size,6,none⟩=some (.slice l ls.length lc):=S0
 have K0:KRow W0.drew W0.drew.heap.size a ks:=KRow.mono (KRow.below hrow.k hB0.drew) hB0.size;have hk':ks.length<=1048576:=by omega
 have hp':ps.length<=1048576:=by omega
 have hl':ls.length<=1048576:=by omega
 clear hrow hx hW0;go_enter Tryz.func44,Tryz.ntmps44;go_upto_region 1 with fail;rw[←HW0.out];clear HW0
 go_region_held3 (fun w'=>w'.cell? ⟨w.heap.size,0,none⟩=some (.int .i64 wd)/\w'.cell? ⟨w.heap.size,1,none⟩=some (.int .i64 now)/\w'.cell? ⟨w.heap.size,2,none⟩=some (.int .i64 given)/\w'.cell? ⟨w.heap.size,3,none⟩=some (.int .i64 births)/\w'.cell? ⟨w.heap.size,4,none⟩=some (.slice a ks.length ac)/\w'.cell? ⟨w.heap.size,5,none⟩=some (.slice p ps.length pc)/\w'.cell? ⟨w.heap.size,6,none⟩=some (.slice l ls.length lc))
  (first|exact S3|exact S2|exact S1|exact S0d|exact sq7 (SBox.below X3.out ((Below.refl _ _).alloc (Nat.le_refl _) _)))
  (first
  |(go_at_call 98;refine(shelfOf_any wd now given births a ac (.slice p ps.length pc) (.slice l ls.length lc) ks W0.drew K0 hk' hsz h8).mono ?_;rintro e w1 ⟨m,f,rfl,hm,hM,hH,hb1⟩;have B1:Below W0.heap.size W0 w1:=(Below.refl W0.heap.size W0).drew.trans hb1;have S1:=sq7 (SBox.below HX.out B1))
  |(go_at_call 108;refine(clonePin_any p pc ps w1 (PRow.mono (PRow.below HROW.out.p (hB0.trans (B1.mono hB0.size))) (hB0.trans (B1.mono hB0.size)).size) hp').mono ?_;rintro e w2 ⟨p2,pc2,rfl,ho2,hb2⟩;have B2:Below W0.heap.size W0 w2:=B1.trans (hb2.mono B1.size);have S2:=sq7 (SBox.below HX.out B2))
  |(go_at_call 109;refine(cloneLease_any l lc ls w2 (LRow.mono (LRow.below HROW.out.l (hB0.trans (B2.mono hB0.size))) (hB0.trans (B2.mono hB0.size)).size) hl').mono ?_;rintro e w3 ⟨l3,lc3,rfl,ho3,hb3⟩;have B3:Below W0.heap.size W0 w3:=B2.trans (hb3.mono B2.size);have X3:Hid _:=SBox.below HX.out B3;have S3:=sq7 X3.out))
 obtain⟨W4,hW4⟩:∃W,W=w3.alloc (.cells #[.int .i64 wd,.map (some m),.int .i64 now,.int .i64 given,.int .i64 births,.slice none 0 0,.slice p2 ps.length pc2,.slice l3 ls.length lc3] 160):=⟨_,rfl⟩;have hz4:W4.heap.size=w3.heap.size+1:=by rw[hW4];simp
 have hb4:Below w3.heap.size w3 W4:=by rw[hW4];exact(Below.refl _ _).alloc (Nat.le_refl _) _
 have Z4:CellsAt W4 w3.heap.size [.int .i64 wd,.map (some m),.int .i64 now,.int .i64 given,.int .i64 births,.slice none 0 0,.slice p2 ps.length pc2,.slice l3 ls.length lc3]:=by rw[hW4];exact CellsAt.new w3 _ _
 have hz01:w.heap.size+1<=w1.heap.size:=by have:=B1.size;omega
 have hz12:=hb2.size;have hz23:=hb3.size;have hm3:m<w1.heap.size:=hM.lt;have B4:Below w.heap.size w W4:=(hB0.trans (B3.mono hB0.size)).trans (hb4.mono (by omega));have B04:Hid (Below W0.drew.heap.size W0.drew W4):=((hb1.trans (hb2.mono (by simp;omega))).trans (hb3.mono (by simp;omega))).trans (hb4.mono (by simp;omega));have HX4:Hid _:=SBox.below X3.out hb4
 have HM4:Hid (KMap W4 162 m ks.length f):=hM.keep (B:=w1.heap.size) ((hb2.trans (hb3.mono hz12)).trans (hb4.mono (by omega))) hm3;have HP4:Hid (W4.ownsRow w1.heap.size 130 2 (.slice p2 ps.length pc2) ps.length (rowC pC ps)):=own_below (own_below ho2 hb3) hb4;have HL4:Hid (W4.ownsRow w2.heap.size 131 3 (.slice l3 ls.length lc3) ls.length (rowC lC ls)):=own_below ho3 hb4
 have HP2:Hid (∀g,(Value.slice p2 ps.length pc2).ownBlock=some g->w1.heap.size<=g/\g<w2.heap.size):=fun g hg=>own_lt ho2 hg;have HL3:Hid (∀g,(Value.slice l3 ls.length lc3).ownBlock=some g->w2.heap.size<=g/\g<w3.heap.size):=fun g hg=>own_lt ho3 hg;have HH:Hid _:=hH;have HZ4:Hid _:=Z4;have hm0:w.heap.size+1<=m:=by have:=hm;simp at this;omega
 rw[←hW4];clear hW4 S0 S0d S1 S2 S3 X3 HX B1 B2 B3 hb1 hb2 hb3 hM ho2 ho3 hH Z4 K0 hm;obtain⟨x0,x1,x2,x3,x4,x5,x6,x7⟩:=HX4.out;go_wp2
 go_loopw [25] (fun i wr=>∃(k:Nat) (O:Value),k<=ks.length/\i=.int .i64 k/\Hid (CellsAt wr w3.heap.size [.int .i64 wd,.map (some m),.int .i64 now,.int .i64 given,.int .i64 births,O,.slice p2 ps.length pc2,.slice l3 ls.length lc3])/\Hid (wr.ownsRow (w3.heap.size+1) 162 8 O ((ks.take k).map (·.sum)).length (cells8 ((ks.take k).map (·.sum))))/\Below w3.heap.size W4 wr) (fun i _=>ks.length -(intOf i).toNat)
 case atStart=>exact⟨0,_,Nat.zero_le _,rfl,HZ4,⟨rfl,.inl ⟨rfl,rfl⟩⟩,Below.refl _ _⟩
 case round=>
  clear x0 x1 x2 x3 x4 x5 x6 x7 HZ4;obtain⟨k,O,hkl,rfl,HZ,HO,hbel⟩:=hrel;obtain⟨x0,x1,x2,x3,x4,x5,x6,x7⟩:=SBox.keep HX4.out hbel (by omega);have hzr:w3.heap.size+1<=wr.heap.size:=by have:=hbel.size;omega
  by_cases hlt:k<ks.length
  ·obtain⟨b,off,ha,hb,hc⟩:=(KRow.below HROW.out.k (B4.trans (hbel.mono (by omega)))).at hlt
   subst ha;have HG:Hid (ks[k]?=some ks[k]):=List.getElem?_eq_getElem hlt;obtain⟨c0,c1,c2,ra,rc,c3,_⟩:=hc k _ HG.out;have hbr:b<wr.heap.size:=by omega
   have HN:Hid ((ks.take (k+1)).map (·.sum)=(ks.take k).map (·.sum)++[ks[k].sum]):=by
    show _=_;rw[List.take_succ_eq_append_getElem hlt,List.map_append];rfl
   have hln:((ks.take k).map (·.sum)).length<=600:=by simp;omega
   clear hc;generalize ks[k]=x at *
   generalize (ks.take k).map (·.sum)=Os at *
   obtain⟨W5,hW5⟩:∃W,W=wr.alloc (.cells #[.string x.sum,.int .i64 x.born,.string x.text,.slice ra x.refs.length rc] 114):=⟨_,rfl⟩;have hz5:W5.heap.size=wr.heap.size+1:=by rw[hW5];simp
   have b5:Below wr.heap.size wr W5:=by rw[hW5];exact(Below.refl _ _).alloc (Nat.le_refl _) _
   have Z5:CellsAt W5 wr.heap.size [.string x.sum,.int .i64 x.born,.string x.text,.slice ra x.refs.length rc]:=by rw[hW5];exact CellsAt.new wr _ _
   have HOr:Hid _:=HO.out;have HO5:Hid _:=own_below HO.out b5;have HZ5:Hid _:=CellsAt.below HZ.out b5;have HB5:Hid (Below w3.heap.size W4 W5):=hbel.trans (b5.mono (by omega));have P5:W5.drew.cell? ⟨w3.heap.size,5,none⟩=some O/\W5.drew.cell? ⟨wr.heap.size,0,none⟩=some (.string x.sum):=⟨(HZ5.out 5 _ rfl).1,(Z5 0 _ rfl).1⟩;have D5:Below W5.heap.size W5 W5.drew:=(Below.refl _ _).drew
   have HW5:Hid _:=hW5;clear hW5 Z5 HO HZ;go_upto_region 5 with fail;rw[←HW5.out];clear HW5 x0 x1 x2 x3 x4 x5 x6 x7 c0 c1 c2 c3;obtain⟨P5a,P5b⟩:=P5;have hne:∀g,O.ownBlock=some g->w3.heap.size+1<=g/\g<wr.heap.size:=fun g hg=>own_lt HOr.out hg;have hwn:wr.heap.size≠w3.heap.size:=by omega
   go_region_law (first
    |(go_simp;go_at_call 110;refine(key_out x.sum W5.drew).mono ?_;rintro e w6 ⟨rfl,hb6⟩;have b6:Below W5.heap.size W5 w6:=D5.trans hb6;have P6a:w6.cell? ⟨w3.heap.size,5,none⟩=some O:=(b6.cell (p:=⟨w3.heap.size,5,none⟩) (by simp;omega)).trans P5a;have P6b:w6.cell? ⟨wr.heap.size,0,none⟩=some (.string x.sum):=(b6.cell (p:=⟨wr.heap.size,0,none⟩) (by simp;omega)).trans P5b;have b7:Below W5.heap.size W5 (w6.alloc (oneK x.sum)):=b6.alloc b6.size _;have P7a:(w6.alloc (oneK x.sum)).cell? ⟨w3.heap.size,5,none⟩=some O:=(b7.cell (p:=⟨w3.heap.size,5,none⟩) (by simp;omega)).trans P5a;have P7b:(w6.alloc (oneK x.sum)).cell? ⟨wr.heap.size,0,none⟩=some (.string x.sum):=(b7.cell (p:=⟨wr.heap.size,0,none⟩) (by simp;omega)).trans P5b;have z6:=b6.size;obtain⟨g8,c8,w8,hr8,ho8,hg8,ha8⟩:=opush w6 (w3.heap.size+1) O Os (own_below HO5.out b6) x.sum (by omega) (by omega) 158;have Z6:=CellsAt.below HZ5.out b6;unfold oneK at hr8 P7a P7b;go_wp2_with fail)
    |(refine step_append_run (by rfl) (.tmp 33) (.tmp 37) 158 158 (by rfl) (by rfl) (by rfl) hr8 ?_;have P8b:w8.cell? ⟨wr.heap.size,0,none⟩=some (.string x.sum):=hg8.cell P6b (fun e=>by have:=(hne _ e.symm).2;simp at this);have Z8:CellsAt w8 w3.heap.size _:=(CellsAt.same Z6 (hg8.block w3.heap.size (by omega) (fun e=>by have:=(hne _ e.symm).1;omega)));have P8a:=(Z8 5 _ rfl).1;have F8:=(Z8 5 _ rfl).2))
   all_goals
    have hx8:Below w3.heap.size W4 w8:=(HB5.out.trans (b6.mono (by omega))).grown hg8 (by omega) (fun g hg=>by have:=(hne g hg).1;omega);have HX8:Hid _:=And.intro Z8 (And.intro hx8 ho8);clear Z8 hx8 ho8 hg8 hr8 Z6 b6 b7 hb6 HO5 HZ5 HB5 P5a P5b P6a P6b P7a P7b P8a P8b F8 ha8 D5 b5;go_wp2;refine⟨⟨k+1,.slice (some ⟨g8,0,none⟩) (Os.length+1) c8,by omega,by go_num,?_,?_,?_⟩,by simp[intOf];omega⟩
    ·exact CellsAt.set HX8.out.1 5 _
    ·rw[HN.out]
     exact ownsRow_setCell_below HX8.out.2.2 (by simp<;>omega) _
    ·exact HX8.out.2.1.setCell (by simp) _
  ·obtain rfl:k=ks.length:=by omega
   rw[List.take_of_length_le (Nat.le_refl _)] at HO;go_wp2;have hap:(vB w3.heap.size m O (.slice p2 ps.length pc2) (.slice l3 ls.length lc3)).Nodup:=by
    have hO:∀g,O.ownBlock=some g->w3.heap.size+1<=g:=fun g hg=>(own_lt HO.out hg).1;have hP:∀g,(Value.slice p2 ps.length pc2).ownBlock=some g->w1.heap.size<=g/\g<w2.heap.size:=HP2.out;have hL:∀g,(Value.slice l3 ls.length lc3).ownBlock=some g->w2.heap.size<=g/\g<w3.heap.size:=HL3.out;unfold vB;generalize (Value.slice p2 ps.length pc2).ownBlock=bp at *
    generalize (Value.slice l3 ls.length lc3).ownBlock=bl at *
    generalize O.ownBlock=bo at *
    cases bo<;>cases bp<;>cases bl<;>simp_all<;>omega
   have hV:∀q∈vB w3.heap.size m O (.slice p2 ps.length pc2) (.slice l3 ls.length lc3),w.heap.size+1<=q:=by
    intro q hq;unfold vB at hq;simp only[List.mem_cons,List.mem_append,Option.mem_toList] at hq;rcases hq with rfl|rfl|hq|hq|hq
    ·omega
    ·omega
    ·have:=(own_lt HO.out hq).1;omega
    ·have:=(HP2.out _ hq).1;omega
    ·have:=(HL3.out _ hq).1;omega
   go_ret;refine⟨_,rfl,⟨m,O,_,_,⟨HZ.out,⟨ks.length,f,by omega,HM4.out.keep hbel (by omega),?_⟩,?_,?_,?_,by omega,by omega,hap⟩⟩,B4.trans (hbel.mono (by omega))⟩
   ·have hq:W0.drew.heap.size=w.heap.size+1:=hz0
    rw[←hq];exact HoldsV.of HH.out (B04.out.trans (hbel.mono (by simp;omega))) (fun q hq=>by have:=hV q hq;simp;omega)
   ·have:=HO.out
    rw[List.length_map] at this;exact this.mono (by omega)
   ·refine World.ownsRow.mono ?_ (show w.heap.size+1<=w1.heap.size by omega)
    exact own_at HP4.out hbel (fun g hg=>by have:=(HP2.out g hg).2;omega)
   ·refine World.ownsRow.mono ?_ (show w.heap.size+1<=w2.heap.size by omega)
    exact own_at HL4.out hbel (fun g hg=>by have:=(HL3.out g hg).2;omega)
end Go.Proofs.YthkmpihfhkmaoaaGreatDoor
namespace Go.Proofs.YthkmpihfhkmaoaaGreatDoor
open Go.ChangeShapes Go.WideShapes Go.ChangeAt Go.RowKit
def kC (x:Kd×Value):List Value:=[.string x.1.sum,.int .i64 x.1.born,.string x.1.text,x.2]
theorem kC_len4 (x:Kd×Value):(kC x).length=4:=rfl
structure SAns (w:World) (base:Nat) (T P L:Value) (rs:List Value) (ks:List Kd) (ps:List Pd) (ls:List Ld):Prop where
 len:rs.length=ks.length
 things:w.ownsRow base 114 4 T ks.length (rowC kC (ks.zip rs))
 refs:∀(i:Nat) (k:Kd) (r:Value),ks[i]?=some k->rs[i]?=some r->w.ownsRow base 9 1 r k.refs.length (k.refs.map Value.string)
 pins:w.ownsRow base 130 2 P ps.length (rowC pC ps)
 leases:w.ownsRow base 131 3 L ls.length (rowC lC ls)
 nd:((T::P::L::rs).filterMap Value.ownBlock).Nodup
theorem below_undrew {B:Nat} {w w':World} (h:Below B w.drew w'):Below B w w':=⟨h.os,h.tape,h.output,h.size,h.block⟩
theorem own_val {w:World} {base:Nat} {e:TypeId} {size:Nat} {v:Value} {n:Nat} {xs:List Value} (h:w.ownsRow base e size v n xs):∃a c,v=.slice a n c:=by
 rcases h.2 with⟨rfl,rfl⟩|⟨g,cap,cur,rfl,_⟩
 ·exact⟨_,_,rfl⟩
 ·exact⟨_,_,rfl⟩
theorem own_set {w:World} {base:Nat} {e:TypeId} {size:Nat} {v:Value} {n:Nat} {xs:List Value} (h:w.ownsRow base e size v n xs) {b:Nat} (hne:∀g,v.ownBlock=some g->g≠b) (j:Nat) (u:Value):(w.setCell ⟨b,j,none⟩ u).ownsRow base e size v n xs:=
 World.ownsRow.kept h (rd_grown w b j u) (.inr (fun e=>hne b e rfl))
theorem d8 {w:World} {d:Nat} {a0 a1 a2 a3 a4 a5 a6 a7:Value} (h:CellsAt w d [a0,a1,a2,a3,a4,a5,a6,a7]):w.cell? ⟨d,0,none⟩=some a0/\w.cell? ⟨d,2,none⟩=some a2/\w.cell? ⟨d,3,none⟩=some a3/\w.cell? ⟨d,4,none⟩=some a4/\w.cell? ⟨d,6,none⟩=some a6/\w.cell? ⟨d,7,none⟩=some a7:=
 ⟨(h 0 _ rfl).1,(h 2 _ rfl).1,(h 3 _ rfl).1,(h 4 _ rfl).1,(h 6 _ rfl).1,(h 7 _ rfl).1⟩
def blks (T P L:Value) (rs:List Value):List Nat:=T.ownBlock.toList++(P.ownBlock.toList++(L.ownBlock.toList++rs.filterMap Value.ownBlock))
theorem blks_eq (T P L:Value) (rs:List Value):(T::P::L::rs).filterMap Value.ownBlock=blks T P L rs:=by
 unfold blks;cases hT:T.ownBlock<;>cases hP:P.ownBlock<;>cases hL:L.ownBlock<;>simp[hT,hP,hL]
theorem nd_step {sb n:Nat} {T T' P L r:Option Nat} {R:List Nat} (h:(sb::(T.toList++(P.toList++(L.toList++R)))).Nodup) (hlt:∀b∈sb::(T.toList++(P.toList++(L.toList++R))),b<n)
 (hr:∀g,r=some g->n<=g) (hT:T'=T∨∃t,T'=some t/\n<=t/\∀g,r=some g->g≠t):(sb::(T'.toList++(P.toList++(L.toList++(R++r.toList))))).Nodup:=by
 rcases hT with rfl|⟨t,rfl,ht,hrt⟩
 ·cases T'<;>cases P<;>cases L<;>cases r<;>simp_all [List.nodup_append]<;>grind
 ·cases T<;>cases P<;>cases L<;>cases r<;>simp_all [List.nodup_append]<;>grind
theorem nd_facts0 {sb:Nat} {T P L:Option Nat} {R:List Nat} (h:(sb::(T.toList++(P.toList++(L.toList++R)))).Nodup):
 (∀g,T=some g->g≠sb)/\(∀g,P=some g->g≠sb/\T≠some g)/\(∀g,L=some g->g≠sb/\T≠some g)/\(∀g∈R,g≠sb/\T≠some g):=by
 cases T<;>cases P<;>cases L<;>simp_all<;>grind
theorem own_same {w w':World} {base:Nat} {e:TypeId} {size:Nat} {v:Value} {n:Nat} {xs:List Value} (h:w.ownsRow base e size v n xs) (hs:∀g,v.ownBlock=some g->w'.heap[g]?=w.heap[g]?):w'.ownsRow base e size v n xs:=by
 refine⟨h.1,?_⟩;rcases h.2 with hn|⟨g,cap,cur,rfl,hb1,hg,rest⟩
 ·exact .inl hn
 ·exact .inr ⟨g,cap,cur,rfl,hb1,(hs g rfl).trans hg,rest⟩
theorem sum_uniq {ks:List Kd} (hnd:(ks.map (·.sum)).Nodup) {u v:Kd} (hu:u∈ks) (hv:v∈ks) (h:u.sum=v.sum):u=v:=by
 induction ks with
 |nil=>cases hu
 |cons x xs ih=>
  simp only[List.map_cons,List.nodup_cons,List.mem_map,not_exists,not_and] at hnd;rcases List.mem_cons.1 hu with hu'|hu'<;>rcases List.mem_cons.1 hv with hv'|hv'
  ·rw[hu',hv']
  ·exact absurd (hu'▸h.symm) (hnd.1 v hv')
  ·exact absurd (hv'▸h) (hnd.1 u hu')
  ·exact ih hnd.2 hu' hv'
def z7:List Value:=[.int .i64 0,.int .i64 0,.int .i64 0,.int .i64 0,.slice none 0 0,.slice none 0 0,.slice none 0 0]
theorem z7at {w:World} {b:Nat} (h:CellsAt w b z7):(w.cell? ⟨b,0,none⟩=some (.int .i64 0)/\w.frozen? ⟨b,0,none⟩=false)/\(w.cell? ⟨b,1,none⟩=some (.int .i64 0)/\w.frozen? ⟨b,1,none⟩=false)/\(w.cell? ⟨b,2,none⟩=some (.int .i64 0)/\w.frozen? ⟨b,2,none⟩=false)/\(w.cell? ⟨b,3,none⟩=some (.int .i64 0)/\w.frozen? ⟨b,3,none⟩=false)/\(w.cell? ⟨b,4,none⟩=some (.slice none 0 0)/\w.frozen? ⟨b,4,none⟩=false)/\(w.cell? ⟨b,5,none⟩=some (.slice none 0 0)/\w.frozen? ⟨b,5,none⟩=false)/\(w.cell? ⟨b,6,none⟩=some (.slice none 0 0)/\w.frozen? ⟨b,6,none⟩=false):=
 ⟨h 0 _ rfl,h 1 _ rfl,h 2 _ rfl,h 3 _ rfl,h 4 _ rfl,h 5 _ rfl,h 6 _ rfl⟩
theorem set7 {w:World} {b:Nat} (h:CellsAt w b z7) (a0 a1 a2 a3 a4 a5 a6:Value):CellsAt (((((((w.setCell ⟨b,0,none⟩ a0).setCell ⟨b,1,none⟩ a1).setCell ⟨b,2,none⟩ a2).setCell ⟨b,3,none⟩ a3).setCell ⟨b,4,none⟩ a4).setCell ⟨b,5,none⟩ a5).setCell ⟨b,6,none⟩ a6) b [a0,a1,a2,a3,a4,a5,a6]:=
 (((((((h.set 0 a0).set 1 a1).set 2 a2).set 3 a3).set 4 a4).set 5 a5).set 6 a6)
theorem own_set7 {w:World} {base:Nat} {e:TypeId} {size:Nat} {v:Value} {n:Nat} {xs:List Value} (h:w.ownsRow base e size v n xs) {b:Nat} (hne:∀g,v.ownBlock=some g->g≠b) (a0 a1 a2 a3 a4 a5 a6:Value):(((((((w.setCell ⟨b,0,none⟩ a0).setCell ⟨b,1,none⟩ a1).setCell ⟨b,2,none⟩ a2).setCell ⟨b,3,none⟩ a3).setCell ⟨b,4,none⟩ a4).setCell ⟨b,5,none⟩ a5).setCell ⟨b,6,none⟩ a6).ownsRow base e size v n xs:=
 own_set (own_set (own_set (own_set (own_set (own_set (own_set h hne 0 _) hne 1 _) hne 2 _) hne 3 _) hne 4 _) hne 5 _) hne 6 _
theorem below_set7 {B:Nat} {a w:World} (h:Below B a w) {b:Nat} (hb:B<=b) (a0 a1 a2 a3 a4 a5 a6:Value):Below B a (((((((w.setCell ⟨b,0,none⟩ a0).setCell ⟨b,1,none⟩ a1).setCell ⟨b,2,none⟩ a2).setCell ⟨b,3,none⟩ a3).setCell ⟨b,4,none⟩ a4).setCell ⟨b,5,none⟩ a5).setCell ⟨b,6,none⟩ a6):=
 ((((((h.setCell hb a0).setCell hb a1).setCell hb a2).setCell hb a3).setCell hb a4).setCell hb a5).setCell hb a6
def Apart3 (b:Nat) (P L:Value):Prop:=(∀g,P.ownBlock=some g->g≠b)/\(∀g,L.ownBlock=some g->g≠b)/\(∀g,P.ownBlock=some g->L.ownBlock=some g->False)
set_option maxRecDepth 20000 in
set_option maxHeartbeats 16000000 in
theorem state_any (base d m:Nat) (O P L:Value) (wd now given births:Int) (ks:List Kd) (ps:List Pd) (ls:List Ld) (w:World) (hd:Dr w base d m O P L wd now given births ks ps ls) (hnd:(ks.map (·.sum)).Nodup) (hsz:∀k∈ks,(k.sum.size:Int)=wd) (hk:ks.length<=600) (hp:ps.length<=100) (hl:ls.length<=200) (hr30:∀k∈ks,k.refs.length<=30):
 Calls Tryz.prog 46 #[.pointer (some ⟨d,0,none⟩)] w fun e w'=>∃T P' L' rs,e=.returned (.agg #[.int .i64 wd,.int .i64 now,.int .i64 given,.int .i64 births,T,P',L'])/\SAns w' w.heap.size T P' L' rs ks ps ls/\Below w.heap.size w w':=by
 obtain⟨pa,pcp,rfl⟩:=own_val hd.pin;obtain⟨la,lcp,rfl⟩:=own_val hd.lea;obtain⟨oa,ocp,rfl⟩:=own_val hd.ord;have HD:Hid _:=hd;have hdl:=hd.box.lt;obtain⟨W,hW⟩:∃W,W=w.alloc (.cells #[.int .i64 0,.int .i64 0,.int .i64 0,.int .i64 0,.slice none 0 0,.slice none 0 0,.slice none 0 0] 38):=⟨_,rfl⟩;have hBW:Below w.heap.size w W:=by rw[hW];exact(Below.refl _ _).alloc (Nat.le_refl _) _
 have hzW:W.heap.size=w.heap.size+1:=by rw[hW];simp
 have ZW:CellsAt W w.heap.size z7:=by rw[hW];exact CellsAt.new w _ _
 have HDW:Hid _:=hd.below hBW;have HPin:Hid (∀X,Below W.heap.size W X->Calls Tryz.prog 108 #[.slice pa ps.length pcp] X fun e w'=>∃a' c',e=.returned (.slice a' ps.length c')/\w'.ownsRow X.heap.size 130 2 (.slice a' ps.length c') ps.length (rowC pC ps)/\Below X.heap.size X w'):=
  fun X hX=>clonePin_any pa pcp ps X (PRow.own (own_below HDW.out.pin hX)) (by omega)
 have HLea:Hid (∀X,Below W.heap.size W X->Calls Tryz.prog 109 #[.slice la ls.length lcp] X fun e w'=>∃a' c',e=.returned (.slice a' ls.length c')/\w'.ownsRow X.heap.size 131 3 (.slice a' ls.length c') ls.length (rowC lC ls)/\Below X.heap.size X w'):=
  fun X hX=>cloneLease_any la lcp ls X (LRow.own (own_below HDW.out.lea hX)) (by omega)
 have HS:Hid (∀X,Below W.heap.size W X->X.cell? ⟨d,0,none⟩=some (.int .i64 wd)/\X.cell? ⟨d,2,none⟩=some (.int .i64 now)/\X.cell? ⟨d,3,none⟩=some (.int .i64 given)/\X.cell? ⟨d,4,none⟩=some (.int .i64 births)/\X.cell? ⟨d,6,none⟩=some (.slice pa ps.length pcp)/\X.cell? ⟨d,7,none⟩=some (.slice la ls.length lcp)):=
  fun X hX=>d8 (HDW.out.box.below hX)
 have D0:Below W.heap.size W W.drew:=(Below.refl _ _).drew;have D1:∀o,Below W.heap.size W (W.alloc o).drew:=fun o=>((Below.refl _ _).alloc (Nat.le_refl _) _).drew;have HW:Hid _:=hW;have HZW:Hid _:=ZW;have HzW:Hid _:=hzW;clear hd hW ZW hzW;go_enter Tryz.func46,Tryz.ntmps46;go_upto_region 1 with fail;rw[←HW.out];clear HW
 go_cut [3] (fun v wx=>∃(sb:Nat) (a1 a2:Option Addr) (c1 c2:Nat),v=.pointer (some ⟨sb,0,none⟩)/\Hid (CellsAt wx sb [.int .i64 wd,.int .i64 now,.int .i64 given,.int .i64 births,.slice none 0 0,.slice a1 ps.length c1,.slice a2 ls.length c2]/\wx.ownsRow W.heap.size 130 2 (.slice a1 ps.length c1) ps.length (rowC pC ps)/\wx.ownsRow W.heap.size 131 3 (.slice a2 ls.length c2) ls.length (rowC lC ls)/\Apart3 sb (.slice a1 ps.length c1) (.slice a2 ls.length c2)/\W.heap.size<=sb/\Below W.heap.size W wx))
 case first=>
  go_region_held3 (fun w'=>w'.cell? ⟨d,0,none⟩=some (.int .i64 wd)/\w'.cell? ⟨d,2,none⟩=some (.int .i64 now)/\w'.cell? ⟨d,3,none⟩=some (.int .i64 given)/\w'.cell? ⟨d,4,none⟩=some (.int .i64 births)/\w'.cell? ⟨d,6,none⟩=some (.slice pa ps.length pcp)/\w'.cell? ⟨d,7,none⟩=some (.slice la ls.length lcp))
   (first
     |with_reducible exact HS.out _ D0
     |with_reducible exact HS.out _ (D1 _)
     |with_reducible exact HS.out _ B1
     |with_reducible exact HS.out _ B2
     |with_reducible exact HS.out _ (B1.alloc B1.size _)
     |with_reducible exact HS.out _ (B2.alloc B2.size _)
     |with_reducible exact HS.out _ (below_set7 B2 hsb2 _ _ _ _ _ _ _))
   (first
     |(go_at_call 108;guard_target=~Calls Tryz.prog 108 _ (World.drew (World.alloc W _)) _;refine(HPin.out (W.alloc (.cells #[.int .i64 0,.int .i64 0,.int .i64 0,.int .i64 0,.slice none 0 0,.slice none 0 0,.slice none 0 0] 38)).drew (D1 _)).mono ?_;rintro e w1 ⟨a1,c1,rfl,ho1,hb1⟩;have B1:Below W.heap.size W w1:=(D1 _).trans (hb1.mono (by simp));have nA:CellsAt w1 W.heap.size z7:=(CellsAt.below (w:=W.alloc (.cells #[.int .i64 0,.int .i64 0,.int .i64 0,.int .i64 0,.slice none 0 0,.slice none 0 0,.slice none 0 0] 38)) (CellsAt.new W _ _) (below_undrew hb1)))
     |(go_at_call 108;guard_target=~Calls Tryz.prog 108 _ (World.drew W) _;refine(HPin.out W.drew D0).mono ?_;rintro e w1 ⟨a1,c1,rfl,ho1,hb1⟩;have B1:Below W.heap.size W w1:=D0.trans hb1)
     |(go_at_call 109;have tag:=nA;refine(HLea.out w1 B1).mono ?_;rintro e w2 ⟨a2,c2,rfl,ho2,hb2⟩;have B2:Below W.heap.size W w2:=B1.trans (hb2.mono B1.size);have n2:CellsAt w2 W.heap.size z7:=(CellsAt.below nA hb2);have hsb2:W.heap.size<=W.heap.size:=Nat.le_refl _;obtain⟨⟨y0,q0⟩,⟨y1,q1⟩,⟨y2,q2⟩,⟨y3,q3⟩,⟨y4,q4⟩,⟨y5,q5⟩,y6,q6⟩:=z7at n2)
     |(go_at_call 109;guard_target=~Calls Tryz.prog 109 _ (World.alloc w1 _) _;refine(HLea.out (w1.alloc (.cells #[.int .i64 0,.int .i64 0,.int .i64 0,.int .i64 0,.slice none 0 0,.slice none 0 0,.slice none 0 0] 38)) (B1.alloc B1.size _)).mono ?_;rintro e w2 ⟨a2,c2,rfl,ho2,hb2⟩;have B2:Below W.heap.size W w2:=(B1.alloc B1.size _).trans (hb2.mono (by have:=B1.size;simp;omega));have nB:CellsAt w2 w1.heap.size z7:=(CellsAt.below (CellsAt.new w1 _ _) hb2);have hsb2:W.heap.size<=w1.heap.size:=B1.size;obtain⟨⟨y0,q0⟩,⟨y1,q1⟩,⟨y2,q2⟩,⟨y3,q3⟩,⟨y4,q4⟩,⟨y5,q5⟩,y6,q6⟩:=z7at nB)
     |(go_at_call 109;refine(HLea.out w1 B1).mono ?_;rintro e w2 ⟨a2,c2,rfl,ho2,hb2⟩;have nC:=ho1;have B2:Below W.heap.size W w2:=B1.trans (hb2.mono B1.size)))
  all_goals (go_wp2_with fail;go_meet)
  all_goals first
   |(have tag:=nA
     have zz:=HzW.out;have l1:∀g,(Value.slice a1 ps.length c1).ownBlock=some g->W.heap.size+1<=g/\g<w1.heap.size:=fun g hg=>by have:=own_lt ho1 hg;simp at this;omega
     have l2:∀g,(Value.slice a2 ls.length c2).ownBlock=some g->w1.heap.size<=g:=fun g hg=>(own_lt ho2 hg).1;have z1:W.heap.size+1<=w1.heap.size:=by have:=hb1.size;simp at this;omega
     exact⟨W.heap.size,a1,a2,c1,c2,rfl,set7 n2 _ _ _ _ _ _ _,own_set7 (own_below (ho1.mono (by simp)) hb2) (fun g hg=>by have:=l1 g hg;omega) _ _ _ _ _ _ _,own_set7 (ho2.mono (by omega)) (fun g hg=>by have:=l2 g hg;omega) _ _ _ _ _ _ _,⟨fun g hg=>by have:=l1 g hg;omega,fun g hg=>by have:=l2 g hg;omega,fun g hg hg'=>by have:=l1 g hg;have:=l2 g hg';omega⟩,Nat.le_refl _,below_set7 B2 (Nat.le_refl _) _ _ _ _ _ _ _⟩)
   |(have tag:=nB
     have l1:∀g,(Value.slice a1 ps.length c1).ownBlock=some g->W.heap.size<=g/\g<w1.heap.size:=fun g hg=>by have:=own_lt ho1 hg;simp at this;omega
     have l2:∀g,(Value.slice a2 ls.length c2).ownBlock=some g->w1.heap.size+1<=g:=fun g hg=>by have:=(own_lt ho2 hg).1;simp at this;omega
     exact⟨w1.heap.size,a1,a2,c1,c2,rfl,set7 nB _ _ _ _ _ _ _,own_set7 (own_below (own_below (ho1.mono (by simp)) ((Below.refl _ _).alloc (Nat.le_refl _) _)) hb2) (fun g hg=>by have:=l1 g hg;omega) _ _ _ _ _ _ _,own_set7 (ho2.mono (by simp;omega)) (fun g hg=>by have:=l2 g hg;omega) _ _ _ _ _ _ _,⟨fun g hg=>by have:=l1 g hg;omega,fun g hg=>by have:=l2 g hg;omega,fun g hg hg'=>by have:=l1 g hg;have:=l2 g hg';omega⟩,hsb2,below_set7 B2 hsb2 _ _ _ _ _ _ _⟩)
   |(have tag:=nC
     have l1:∀g,(Value.slice a1 ps.length c1).ownBlock=some g->W.heap.size<=g/\g<w1.heap.size:=fun g hg=>by have:=own_lt ho1 hg;simp at this;omega
     have l2:∀g,(Value.slice a2 ls.length c2).ownBlock=some g->w1.heap.size<=g/\g<w2.heap.size:=fun g hg=>own_lt ho2 hg;have z2:=hb2.size
     exact⟨w2.heap.size,a1,a2,c1,c2,rfl,CellsAt.new w2 _ _,own_below (own_below (ho1.mono (by simp)) hb2) ((Below.refl _ _).alloc (Nat.le_refl _) _),own_below (ho2.mono B1.size) ((Below.refl _ _).alloc (Nat.le_refl _) _),⟨fun g hg=>by have:=l1 g hg;omega,fun g hg=>by have:=l2 g hg;omega,fun g hg hg'=>by have:=l1 g hg;have:=l2 g hg';omega⟩,B2.size,B2.alloc B2.size _⟩)
 case rest=>
  revert wc;intro wN hcut;obtain⟨sb,a1,a2,c1,c2,rfl,HC⟩:=hcut;have HNB:Hid (Below w.heap.size w wN):=hBW.trans (HC.out.2.2.2.2.2.mono hBW.size);have dN:=(HDW.out.box.below HC.out.2.2.2.2.2);obtain⟨e5,_⟩:=dN 5 _ rfl;have zN:=HC.out.2.2.2.2.2.size;have sbN:W.heap.size<=sb:=HC.out.2.2.2.2.1;have HZN:Hid (CellsAt wN w.heap.size z7):=CellsAt.below (v:=.int .i64 0) (l:=z7.tail) HZW.out HC.out.2.2.2.2.2
  clear dN HPin HLea HS D0 D1 HZW;go_wp2
  go_loopw [40] (fun i wr=>∃(k:Nat) (T:Value) (rs:List Value),k<=ks.length/\i=.int .i64 k/\Hid (CellsAt wr sb [.int .i64 wd,.int .i64 now,.int .i64 given,.int .i64 births,T,.slice a1 ps.length c1,.slice a2 ls.length c2]/\CellsAt wr w.heap.size z7/\wr.ownsRow W.heap.size 114 4 T k (rowC kC ((ks.take k).zip rs))/\rs.length=k/\(∀(i:Nat) (x:Kd) (r:Value),(ks.take k)[i]?=some x->rs[i]?=some r->wr.ownsRow W.heap.size 9 1 r x.refs.length (x.refs.map Value.string))/\wr.ownsRow W.heap.size 130 2 (.slice a1 ps.length c1) ps.length (rowC pC ps)/\wr.ownsRow W.heap.size 131 3 (.slice a2 ls.length c2) ls.length (rowC lC ls)/\(sb::blks T (.slice a1 ps.length c1) (.slice a2 ls.length c2) rs).Nodup)/\Below w.heap.size w wr) (fun i _=>ks.length -(intOf i).toNat)
  case atStart=>
   refine⟨0,.slice none 0 0,[],Nat.zero_le _,rfl,⟨HC.out.1,HZN.out,⟨rfl,.inl ⟨rfl,rfl⟩⟩,rfl,fun i x r hx=>by simp at hx,HC.out.2.1,HC.out.2.2.1,?_⟩,HNB.out⟩;have h3:=HC.out.2.2.2.1;unfold Apart3 at h3;unfold blks;generalize (Value.slice a1 ps.length c1).ownBlock=x1 at *
   generalize (Value.slice a2 ls.length c2).ownBlock=x2 at *
   cases x1<;>cases x2<;>simp_all [Value.ownBlock]<;>grind
  case round=>
   obtain⟨k,T,rs,hkl,rfl,HI,hbel⟩:=hrel;by_cases hlt:k<ks.length
   ·obtain⟨n,f,hn,hM,hH⟩:=HD.out.map
    have hzr:=hbel.size;have ho:wr.ownsRow base 162 8 (.slice oa ks.length ocp) ks.length (cells8 (ks.map (·.sum))):=own_at HD.out.ord hbel (fun g hg=>(own_lt HD.out.ord hg).2);obtain⟨og,oc,heq,_,hog⟩:=own_form ho (fun e=>by injection e with _ h2 _;omega);cases heq;have HG:Hid (ks[k]?=some ks[k]):=List.getElem?_eq_getElem hlt;have hmem:ks[k]∈ks:=List.getElem_mem hlt;have hxs:=hsz _ hmem
    have hx30:=hr30 _ hmem;have hgs:(ks.map (·.sum))[k]?=some ks[k].sum:=by simp[hlt]
    have hcell:∀j,j<8->wr.cell? ⟨og,k *8+j,none⟩=some (.int .u8 (kB ks[k].sum j)):=fun j hj=>(ho.cellAt _ (by omega)).trans (cells8_get hgs hj);obtain⟨ra,rc,hfk,HRA⟩:∃ra rc,f (keyL ks[k].sum)=some (keptV ks[k] ra rc)/\Hid (SRow w w.heap.size ra ks[k].refs):=by
     rcases hH _ hxs with⟨_,hno⟩|⟨u,ra,rc,hu,hus,hfu,hrv⟩
     ·exact absurd ⟨_,hmem,rfl⟩ hno
     ·obtain rfl:=sum_uniq hnd hu hmem hus
      exact⟨ra,rc,hfu,hrv.row⟩
    have hlk:∀X,Below wr.heap.size wr X->(Instr.lookup 143 (.map (some m)) (keyV ks[k].sum) false).run Tryz.prog X=.ok (keptV ks[k] ra rc) X:=fun X hX=>by
     have:=(hM.keep (hbel.trans (hX.mono hzr)) hM.lt).look keyed Tryz.underlying143 (zeroKept _) (key_lit ks[k].sum);rw[hfk] at this;exact this
    have dr:CellsAt wr d _:=CellsAt.below HD.out.box hbel;have hc0:=hcell 0 (by omega);have hc1:=hcell 1 (by omega);have hc2:=hcell 2 (by omega);have hc3:=hcell 3 (by omega);have hc4:=hcell 4 (by omega);have hc5:=hcell 5 (by omega);have hc6:=hcell 6 (by omega);have hc7:=hcell 7 (by omega);rw[Nat.add_zero] at hc0
    have HX:Hid (ks.take (k+1)=ks.take k++[ks[k]]):=List.take_succ_eq_append_getElem hlt;unfold keyV keyA keptV at hlk;clear ho hcell hgs hH hfk hmem hM;generalize ks[k]=x at *
    obtain⟨W1,hW1⟩:∃W1,W1=wr.alloc (.cells #[.int .u8 (kB x.sum 0),.int .u8 (kB x.sum 1),.int .u8 (kB x.sum 2),.int .u8 (kB x.sum 3),.int .u8 (kB x.sum 4),.int .u8 (kB x.sum 5),.int .u8 (kB x.sum 6),.int .u8 (kB x.sum 7)] 162):=⟨_,rfl⟩;have b1:Below wr.heap.size wr W1:=by rw[hW1];exact(Below.refl _ _).alloc (Nat.le_refl _) _
    have z1:W1.heap.size=wr.heap.size+1:=by rw[hW1];simp
    have K1:CellsAt W1 wr.heap.size [.int .u8 (kB x.sum 0),.int .u8 (kB x.sum 1),.int .u8 (kB x.sum 2),.int .u8 (kB x.sum 3),.int .u8 (kB x.sum 4),.int .u8 (kB x.sum 5),.int .u8 (kB x.sum 6),.int .u8 (kB x.sum 7)]:=by rw[hW1];exact CellsAt.new wr _ _
    have HSS:Hid (∀X,Below W1.heap.size W1 X->X.cell? ⟨d,1,none⟩=some (.map (some m))/\(X.cell? ⟨wr.heap.size,0,none⟩=some (.int .u8 (kB x.sum 0))/\X.cell? ⟨wr.heap.size,1,none⟩=some (.int .u8 (kB x.sum 1))/\X.cell? ⟨wr.heap.size,2,none⟩=some (.int .u8 (kB x.sum 2))/\X.cell? ⟨wr.heap.size,3,none⟩=some (.int .u8 (kB x.sum 3))/\X.cell? ⟨wr.heap.size,4,none⟩=some (.int .u8 (kB x.sum 4))/\X.cell? ⟨wr.heap.size,5,none⟩=some (.int .u8 (kB x.sum 5))/\X.cell? ⟨wr.heap.size,6,none⟩=some (.int .u8 (kB x.sum 6))/\X.cell? ⟨wr.heap.size,7,none⟩=some (.int .u8 (kB x.sum 7)))/\(Instr.lookup 143 (.map (some m)) (.agg #[.int .u8 (kB x.sum 0),.int .u8 (kB x.sum 1),.int .u8 (kB x.sum 2),.int .u8 (kB x.sum 3),.int .u8 (kB x.sum 4),.int .u8 (kB x.sum 5),.int .u8 (kB x.sum 6),.int .u8 (kB x.sum 7)]) false).run Tryz.prog X=.ok (.agg #[.string x.sum,.int .i64 x.born,.string x.text,.slice ra x.refs.length rc]) X):=
     fun X hX=>⟨((dr.below (b1.trans (hX.mono b1.size))) 1 _ rfl).1,sk8 (hX.block _ (by omega)) K1,hlk X (b1.trans (hX.mono b1.size))⟩
    have D0:Below W1.heap.size W1 W1.drew:=(Below.refl _ _).drew;have D1:∀o,Below W1.heap.size W1 (W1.alloc o).drew:=fun o=>((Below.refl _ _).alloc (Nat.le_refl _) _).drew;have HW1:Hid _:=hW1;have Hz1:Hid _:=z1;have HB1:Hid _:=b1;clear hW1 z1 hlk K1 b1 dr;go_upto_region 5 with fail;rw[←HW1.out];clear HW1 hc0 hc1 hc2 hc3 hc4 hc5 hc6 hc7
    go_region_held3 (fun X=>X.cell? ⟨d,1,none⟩=some (.map (some m))/\(X.cell? ⟨wr.heap.size,0,none⟩=some (.int .u8 (kB x.sum 0))/\X.cell? ⟨wr.heap.size,1,none⟩=some (.int .u8 (kB x.sum 1))/\X.cell? ⟨wr.heap.size,2,none⟩=some (.int .u8 (kB x.sum 2))/\X.cell? ⟨wr.heap.size,3,none⟩=some (.int .u8 (kB x.sum 3))/\X.cell? ⟨wr.heap.size,4,none⟩=some (.int .u8 (kB x.sum 4))/\X.cell? ⟨wr.heap.size,5,none⟩=some (.int .u8 (kB x.sum 5))/\X.cell? ⟨wr.heap.size,6,none⟩=some (.int .u8 (kB x.sum 6))/\X.cell? ⟨wr.heap.size,7,none⟩=some (.int .u8 (kB x.sum 7)))/\(Instr.lookup 143 (.map (some m)) (.agg #[.int .u8 (kB x.sum 0),.int .u8 (kB x.sum 1),.int .u8 (kB x.sum 2),.int .u8 (kB x.sum 3),.int .u8 (kB x.sum 4),.int .u8 (kB x.sum 5),.int .u8 (kB x.sum 6),.int .u8 (kB x.sum 7)]) false).run Tryz.prog X=.ok (.agg #[.string x.sum,.int .i64 x.born,.string x.text,.slice ra x.refs.length rc]) X)
     (first|with_reducible exact HSS.out _ D0|with_reducible exact HSS.out _ (D1 _))
     (fail)
    all_goals
     clear HSS D0 D1;obtain⟨W2,hW2⟩:∃W2,W2=(W1.alloc (.cells #[.string x.sum,.int .i64 x.born,.string x.text,.slice ra x.refs.length rc] 114)).drew:=⟨_,rfl⟩;have b2:Below W1.heap.size W1 W2:=by rw[hW2];exact((Below.refl _ _).alloc (Nat.le_refl _) _).drew
     have z2:W2.heap.size=W1.heap.size+1:=by rw[hW2];simp
     have K2:CellsAt W2 W1.heap.size [.string x.sum,.int .i64 x.born,.string x.text,.slice ra x.refs.length rc]:=by rw[hW2];exact CellsAt.new W1 _ _
     have z1:=Hz1.out;have b12:Below wr.heap.size wr W2:=HB1.out.trans (b2.mono (by omega));have R2:SRow W2 W2.heap.size ra x.refs:=SRow.mono (SRow.below HRA.out (hbel.trans (b12.mono hzr))) (by omega);rw[←hW2];obtain⟨k3,_⟩:=K2 3 _ rfl;have Hz2:Hid _:=z2;have hr3:x.refs.length<=1048576:=by omega
     clear hW2 z1 z2;go_wp2_with fail;refine(cloneStr_any ra rc x.refs W2 R2 hr3).mono ?_;rintro e w3 ⟨a3,c3,rfl,ho3,hb3⟩;clear k3;have z1:=Hz1.out;have z2:=Hz2.out;have b13:Below wr.heap.size wr w3:=b12.trans (hb3.mono (by omega));have z3:=hb3.size;obtain⟨i1,i2,i3,i4,i5,i6,i7,i8⟩:=HI.out;have zW:=HzW.out;have S3:=CellsAt.below i1 b13;obtain⟨ta,tc,rfl⟩:=own_val i3;obtain⟨s4,f4⟩:=S3 4 _ rfl
     have hsb:sb<wr.heap.size:=i1.lt;have hne1:¬sb=W1.heap.size:=by omega
     have hne2:¬W1.heap.size=sb:=by omega
     obtain⟨k0,_⟩:=CellsAt.below K2 hb3 0 _ rfl;obtain⟨k1,_⟩:=CellsAt.below K2 hb3 1 _ rfl;obtain⟨k2,_⟩:=CellsAt.below K2 hb3 2 _ rfl;obtain⟨k3,g3⟩:=CellsAt.below K2 hb3 3 _ rfl;have HT3:Hid _:=own_below i3 b13;have hTl:∀g,(Value.slice ta k tc).ownBlock=some g->W.heap.size<=g/\g<wr.heap.size:=fun g hg=>own_lt i3 hg
     have h3l:∀g,(Value.slice a3 x.refs.length c3).ownBlock=some g->W2.heap.size<=g/\g<w3.heap.size:=fun g hg=>own_lt ho3 hg;have HO3:Hid _:=ho3;have HB13:Hid _:=b13;have HS3:Hid _:=S3;have hz3':W.heap.size<=w3.heap.size:=by omega
     obtain⟨i0,hi,hz0,hz1,hz2⟩:=info_parts Tryz.infoKept;have Hz3:Hid _:=z3;clear K2 b2 b12 R2 i1 i2 i3 i4 i5 i6 i7 i8 hb3 ho3 b13 S3 z1 z2 z3 zW;go_wp2_with (first
      |(at_builtin;refine wpList_append_own_at _ rfl _ _ 34 rfl W.heap.size 114 i0 _ 4 64 Tryz.underlying34 hi hz0 hz1 hz2 rfl (by decide) _ k (rowC kC ((ks.take k).zip rs)) rfl ?d0 ⟨w3.heap.size,0,none⟩ 1 1 (kC (x,.slice a3 x.refs.length c3)) rfl rfl ?d2 ?d3 ?d4 ?d5 ?d6 ?_)
      |go_in)
     case d0=>exact own_below (own_set HT3.out (fun g hg=>by have:=hTl g hg;have:=Hz1.out;omega) 3 _) ((Below.refl _ _).alloc (Nat.le_refl _) _)
     case d2=>
      intro j u hu;rw[Go.WideShapes.add_plain,Nat.zero_add];have:=(CellsAt.new (w3.setCell ⟨W1.heap.size,3,none⟩ (.slice a3 x.refs.length c3)) (kC (x,.slice a3 x.refs.length c3)) 114) j u hu;simpa [kC] using this.1
     case d3=>
      intro u hu;simp[kC] at hu;rcases hu with rfl|rfl|rfl|rfl<;>rfl
     case d4=>unfold maxLen;omega
     case d5=>omega
     case d6=>simp;omega
     intro v4 w4 ho4 hg4 hn4 ha4;obtain⟨g4,c4,rfl,hg4a,hg4b⟩:=own_form ho4 (fun e=>by subst e;rcases ho4.2 with⟨_,hn⟩|⟨_,_,_,e,_⟩<;>first|omega|cases e);obtain⟨i1,i2,i3,i4,i5,i6,i7,i8⟩:=HI.out;have nf:=nd_facts0 i8;have z1:=Hz1.out;have z2:=Hz2.out;have z3:=Hz3.out;have zW:=HzW.out
     have hX:∀b,b<w3.heap.size->b≠W1.heap.size->(Value.slice ta k tc).ownBlock≠some b->w4.heap[b]?=w3.heap[b]?:=fun b hb hb1 hb2=>by
      rw[hg4.block b (by simp;omega) (fun e=>hb2 e.symm),Below.heap_alloc _ _ _ (by simp;omega),Below.heap_setCell _ _ _ _ (by simpa using hb1)]
     have S4:=CellsAt.same HS3.out (hX sb (by omega) hne1 (fun e=>nf.1 _ e rfl));obtain⟨_,f4'⟩:=S4 4 _ rfl;obtain⟨s4',_⟩:=S4 4 _ rfl;have hg4n:g4≠sb:=by
      rcases ha4 with ha|ha
      ·exact nf.1 g4 ha.symm
      ·simp[Value.ownBlock] at ha;omega
     have HF:Hid _:=And.intro S4 (And.intro hX (And.intro ho4 (And.intro ha4 hg4)));clear S4 hX ho4 ha4 hg4 i1 i2 i3 i4 i5 i6 i7 i8 nf z1 z2 z3 zW s4 f4 k0 k1 k2 k3 g3 hn4;go_wp2;obtain⟨S4,hX,ho4,ha4,hg4⟩:=HF.out;obtain⟨i1,i2,i3,i4,i5,i6,i7,i8⟩:=HI.out;have nf:=nd_facts0 i8;have z1:=Hz1.out;have z2:=Hz2.out;have z3:=Hz3.out;have zW:=HzW.out
     have hY:∀b,b<w3.heap.size->b≠W1.heap.size->b≠sb->(Value.slice ta k tc).ownBlock≠some b->(w4.setCell ⟨sb,4,none⟩ (.slice (some ⟨g4,0,none⟩) (k+1) c4)).heap[b]?=w3.heap[b]?:=fun b h1 h2 h3 h4=>(Below.heap_setCell _ _ _ _ (by simpa using h3)).trans (hX b h1 h2 h4)
     have hYr:∀b,b<wr.heap.size->b≠sb->(Value.slice ta k tc).ownBlock≠some b->(w4.setCell ⟨sb,4,none⟩ (.slice (some ⟨g4,0,none⟩) (k+1) c4)).heap[b]?=wr.heap[b]?:=fun b h1 h3 h4=>(hY b (by omega) (by omega) h3 h4).trans (HB13.out.block b h1);have rlt:∀r∈rs,∀g,r.ownBlock=some g->g<wr.heap.size:=by
      intro r hr g hg;obtain⟨i,hi⟩:=List.getElem?_of_mem hr;have hil:i<k:=by have:=(List.getElem?_eq_some_iff.1 hi).1;omega
      exact(own_lt (i5 i _ r (by rw[List.getElem?_take_of_lt hil];exact List.getElem?_eq_getElem (by omega)) hi) hg).2
     refine⟨⟨k+1,.slice (some ⟨g4,0,none⟩) (k+1) c4,rs++[.slice a3 x.refs.length c3],by omega,by go_num,⟨CellsAt.set S4 4 _,?_,?_,?_,?_,?_,?_,?_⟩,?_⟩,by simp[intOf];omega⟩
     ·exact CellsAt.same i2 (hYr w.heap.size (by omega) (by omega) (fun e=>by have:=(hTl _ e).1;omega))
     ·rw[HX.out,List.zip_append (by rw[i4,List.length_take];omega),row_append]
      exact own_set ho4 (fun g hg=>by simp[Value.ownBlock] at hg;omega) 4 _
     ·simp[i4]
     ·intro i y r hy hr
      rw[HX.out] at hy;have hkl2:(ks.take k).length=k:=by rw[List.length_take];omega
      rcases Nat.lt_or_ge i k with h|h
      ·rw[List.getElem?_append_left (by omega)] at hy hr
       refine own_same (i5 i y r hy hr) (fun g hg=> ?_);have:=nf.2.2.2 g (List.mem_filterMap.2 ⟨r,List.mem_of_getElem? hr,hg⟩);exact hYr g (rlt r (List.mem_of_getElem? hr) g hg) this.1 this.2
      ·have hik:i=k:=by have:=(List.getElem?_eq_some_iff.1 hr).1;simp at this;omega
       subst hik;rw[List.getElem?_append_right (by omega),hkl2,Nat.sub_self] at hy;rw[List.getElem?_append_right (by omega),i4,Nat.sub_self] at hr;simp at hy hr;subst hy;subst hr;refine own_same (World.ownsRow.mono HO3.out (by omega)) (fun g hg=> ?_);have:=h3l g hg;exact hY g this.2 (by omega) (by omega) (fun e=>by have:=(hTl g e).2;omega)
     ·exact own_same i6 (fun g hg=>hYr g (own_lt i6 hg).2 (nf.2.1 g hg).1 (nf.2.1 g hg).2)
     ·exact own_same i7 (fun g hg=>hYr g (own_lt i7 hg).2 (nf.2.2.1 g hg).1 (nf.2.2.1 g hg).2)
     ·unfold blks
      rw[List.filterMap_append];have hfl:List.filterMap Value.ownBlock [.slice a3 x.refs.length c3]=(Value.slice a3 x.refs.length c3).ownBlock.toList:=by cases h:(Value.slice a3 x.refs.length c3).ownBlock<;>simp[h]
      rw[hfl];refine nd_step (n:=wr.heap.size) i8 ?_ (fun g hg=>by have:=(h3l g hg).1;omega) ?_
      ·intro b hb
       simp only[List.mem_cons,List.mem_append,Option.mem_toList,List.mem_filterMap] at hb;rcases hb with rfl|hb|hb|hb|⟨r,hr,hb⟩
       ·exact hsb
       ·exact(hTl _ hb).2
       ·exact(own_lt i6 hb).2
       ·exact(own_lt i7 hb).2
       ·exact rlt r hr b hb
      ·rcases ha4 with ha|ha
       ·exact .inl ha
       ·refine .inr ⟨w3.heap.size+1,by simpa using ha,by omega,fun g hg=>by have:=(h3l g hg).2;omega⟩
     ·have hq:Below w.heap.size w w3:=hbel.trans (HB13.out.mono hzr)
      exact(((hq.setCell (by simp;omega) _).alloc (by simp;omega) _).grown hg4 (by simp;omega) (fun g hg=>by have:=(hTl g hg).1;omega)).setCell (by simp;omega) _
   ·obtain rfl:k=ks.length:=by omega
    obtain⟨i1,i2,i3,i4,i5,i6,i7,i8⟩:=HI.out;have zW:=HzW.out;obtain⟨⟨y0,q0⟩,⟨y1,q1⟩,⟨y2,q2⟩,⟨y3,q3⟩,⟨y4,q4⟩,⟨y5,q5⟩,y6,q6⟩:=z7at i2;obtain⟨ta,tc,rfl⟩:=own_val i3;obtain⟨x0,_⟩:=i1 0 _ rfl;obtain⟨x1,_⟩:=i1 1 _ rfl;obtain⟨x2,_⟩:=i1 2 _ rfl;obtain⟨x3,_⟩:=i1 3 _ rfl;obtain⟨x4,_⟩:=i1 4 _ rfl;obtain⟨x5,_⟩:=i1 5 _ rfl;obtain⟨x6,_⟩:=i1 6 _ rfl;have hsne:¬sb=w.heap.size:=by omega
    have hsne':¬w.heap.size=sb:=by omega
    have HI':Hid _:=And.intro i2 (And.intro i3 (And.intro i4 (And.intro i5 (And.intro i6 (And.intro i7 i8)))));clear i1 i2 i3 i4 i5 i6 i7 i8 zW;go_wp2;have zW:=HzW.out
    have hap:∀{e:TypeId} {size:Nat} {v:Value} {n:Nat} {xs:List Value},wr.ownsRow W.heap.size e size v n xs->(((((((wr.setCell ⟨w.heap.size,0,none⟩ (.int .i64 wd)).setCell ⟨w.heap.size,1,none⟩ (.int .i64 now)).setCell ⟨w.heap.size,2,none⟩ (.int .i64 given)).setCell ⟨w.heap.size,3,none⟩ (.int .i64 births)).setCell ⟨w.heap.size,4,none⟩ (.slice ta ks.length tc)).setCell ⟨w.heap.size,5,none⟩ (.slice a1 ps.length c1)).setCell ⟨w.heap.size,6,none⟩ (.slice a2 ls.length c2)).ownsRow w.heap.size e size v n xs:=fun h=>World.ownsRow.mono (own_set7 h (fun g hg=>by have:=(own_lt h hg).1;omega) _ _ _ _ _ _ _) (by omega)
    have htk:ks.take ks.length=ks:=List.take_of_length_le (Nat.le_refl _)
    refine bodyPost_ret (v:=.agg #[.int .i64 wd,.int .i64 now,.int .i64 given,.int .i64 births,.slice ta ks.length tc,.slice a1 ps.length c1,.slice a2 ls.length c2]) (by simp[results,Tryz.results46,go_sem,y0,y1,y2,y3,y4,y5,y6]) rfl ⟨_,_,_,rs,rfl,⟨HI'.out.2.2.1,?_,?_,hap HI'.out.2.2.2.2.1,hap HI'.out.2.2.2.2.2.1,?_⟩,below_set7 hbel (Nat.le_refl _) _ _ _ _ _ _ _⟩
    ·have:=HI'.out.2.1
     rw[htk] at this;exact hap this
    ·intro i y r hy hr
     exact hap (HI'.out.2.2.2.1 i y r (by rw[htk];exact hy) hr)
    ·rw[blks_eq]
     exact(List.nodup_cons.1 HI'.out.2.2.2.2.2.2).2
end Go.Proofs.YthkmpihfhkmaoaaGreatDoor
