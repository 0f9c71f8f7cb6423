import Derived.Test.YtflhhhnlhlaehaaGreatDoorC09
import Derived.WalkLawsBesides
import Derived.Defers
import Derived.Recover
set_option maxRecDepth 100000
set_option maxHeartbeats 16000000
namespace Go.Proofs.YtflhhhnlhlaehaaGreatDoor
open Go.ChangeShapes Go.WideShapes Go.ChangeAt Go.RowKit _root_.Go.Proofs.Tryz
section
attribute [local go_sem↓] Go.wp_at_zero Go.wp_at_succ
theorem Bd.holds {w:World} {base:Nat} {V:List Nat} {wd:Int} {ks:List Kd} {f:Lit->Option Value} (h:Bd w base V wd ks f):BY w w.heap.size wd ks f:=by
 intro s hs;rcases h s hs with h|⟨u,ra,rc,h1,h2,h3,h4⟩
 ·exact .inl h
 ·exact .inr ⟨u,ra,rc,h1,h2,h3,h4.row⟩
theorem Dr.look {w:World} {base d m:Nat} {O P L:Value} {wd now given births:Int} {ks:List Kd} {ps:List Pd} {ls:List Ld} (h:Dr w base d m O P L wd now given births ks ps ls) (zB:(ks.map (·.sum)).Nodup) (zE:∀k∈ks,(k.sum.size:Int)=wd) {k:Kd} (hk:k∈ks):
 ∃ra rc,Ad w w.heap.size ra k.refs/\∀X,Uq w X->(Instr.lookup 100 (.map (some m)) (Bt k.sum) false).run prog X=.ok (Dc k ra rc) X:=by
 obtain⟨n,f,hn,hM,hH⟩:=h.map;rcases hH _ (zE k hk) with⟨_,zC⟩|⟨u,ra,rc,hu,zF,zA,zD⟩
 ·exact absurd ⟨_,hk,rfl⟩ zC
 ·obtain rfl:=FN zB hu hk zF
  refine⟨ra,rc,zD.row,fun X hX=> ?_⟩;have:=(hM.keep hX hM.lt).look keyed underlying100 (Hs _) (Dt u.sum);rw[zA] at this;exact this
theorem Px (base d m dp sp:Nat) (O P L:Value) (wd now given births:Int) (ks:List Kd) (ps:List Pd) (ls:List Ld) (s:ByteArray) (k:Kd) (w:World) (hd:Dr w base d m O P L wd now given births ks ps ls) (zI:(ks.map (·.sum)).Nodup) (zK:∀k∈ks,(k.sum.size:Int)=wd) (hk:k∈ks) (hr:k.refs.length<=1000) (zB:k.refs.Pairwise (fun a b=>less a b=true))
 (zC:w.cell? ⟨dp,0,none⟩=some (.pointer (some ⟨d,0,none⟩))) (zE:w.cell? ⟨sp,0,none⟩=some (.string s)):
 Calls prog 175 #[Bt k.sum,.pointer (some ⟨dp,0,none⟩),.pointer (some ⟨sp,0,none⟩)] w fun e w'=>∃ok,e=.returned (.bool ok)/\(ok=true↔s∈k.refs)/\Uq w w':=by
 obtain⟨ra,rc,zA,hlk⟩:=hd.look zI zK hk;have zH:=World.block_lt_of_cell? w _ zC;have zJ:=World.block_lt_of_cell? w _ zE;obtain⟨W,hW⟩:∃W,W=w.alloc (.cells #[.int .u8 (kB k.sum 0),.int .u8 (kB k.sum 1),.int .u8 (kB k.sum 2),.int .u8 (kB k.sum 3),.int .u8 (kB k.sum 4),.int .u8 (kB k.sum 5),.int .u8 (kB k.sum 6),.int .u8 (kB k.sum 7)] 113):=⟨_,rfl⟩;have hB:=(AC hW).1
 have cb:Aa W w.heap.size (Ah k.sum):=by rw[hW];exact Aa.new w (Ah k.sum) 113
 have zL:w.heap.size<W.heap.size:=Aa.lt (v:=.int .u8 (kB k.sum 0)) cb;unfold Bt BW Dc at hlk
 have HS:Hid (∀X,Uq W X->X.cell? ⟨dp,0,none⟩=some (.pointer (some ⟨d,0,none⟩))/\X.cell? ⟨sp,0,none⟩=some (.string s)/\X.cell? ⟨d,1,none⟩=some (.map (some m))/\(X.cell? ⟨w.heap.size,0,none⟩=some (.int .u8 (kB k.sum 0))/\X.cell? ⟨w.heap.size,1,none⟩=some (.int .u8 (kB k.sum 1))/\X.cell? ⟨w.heap.size,2,none⟩=some (.int .u8 (kB k.sum 2))/\X.cell? ⟨w.heap.size,3,none⟩=some (.int .u8 (kB k.sum 3))/\X.cell? ⟨w.heap.size,4,none⟩=some (.int .u8 (kB k.sum 4))/\X.cell? ⟨w.heap.size,5,none⟩=some (.int .u8 (kB k.sum 5))/\X.cell? ⟨w.heap.size,6,none⟩=some (.int .u8 (kB k.sum 6))/\X.cell? ⟨w.heap.size,7,none⟩=some (.int .u8 (kB k.sum 7)))/\(Instr.lookup 100 (.map (some m)) (.agg #[.int .u8 (kB k.sum 0),.int .u8 (kB k.sum 1),.int .u8 (kB k.sum 2),.int .u8 (kB k.sum 3),.int .u8 (kB k.sum 4),.int .u8 (kB k.sum 5),.int .u8 (kB k.sum 6),.int .u8 (kB k.sum 7)]) false).run prog X=.ok (.agg #[.string k.sum,.int .i64 k.born,.string k.text,.slice ra k.refs.length rc]) X):=
  fun X hX=>by
   have hb:=hB.trans (hX.mono hB.size);exact⟨(hb.cell (p:=⟨dp,0,none⟩) zH).trans zC,(hb.cell (p:=⟨sp,0,none⟩) zJ).trans zE,(Aa.below hd.box hb 1 _ rfl).1,SU (hX.block _ zL) cb,hlk X hb⟩
 have HR:Hid _:=LZ ra rc k.refs s W.drew (Ad.mono (Ad.below zA hB.drew) hB.size) hr zB;have D0:Below W.heap.size W W.drew:=(Below.refl _ _).drew;have zM:∀X:World,(Instr.field 115 (.agg #[.string k.sum,.int .i64 k.born,.string k.text,.slice ra k.refs.length rc]) 2).run prog X=.ok (.agg #[.string k.text,.slice ra k.refs.length rc]) X:=fun _=>by kernel_rfl
 have zN:∀X:World,(Instr.field 40 (.agg #[.string k.text,.slice ra k.refs.length rc]) 1).run prog X=.ok (.slice ra k.refs.length rc) X:=fun _=>by kernel_rfl
 have HW:Hid _:=hW;clear hW cb hlk zA;unfold Bt BW;go_enter func175,ntmps175;go_upto_region 1 with fail;rw[←HW.o];clear HW
 go_region_held3 (fun X=>X.cell? ⟨dp,0,none⟩=some (.pointer (some ⟨d,0,none⟩))/\X.cell? ⟨sp,0,none⟩=some (.string s)/\X.cell? ⟨d,1,none⟩=some (.map (some m))/\(X.cell? ⟨w.heap.size,0,none⟩=some (.int .u8 (kB k.sum 0))/\X.cell? ⟨w.heap.size,1,none⟩=some (.int .u8 (kB k.sum 1))/\X.cell? ⟨w.heap.size,2,none⟩=some (.int .u8 (kB k.sum 2))/\X.cell? ⟨w.heap.size,3,none⟩=some (.int .u8 (kB k.sum 3))/\X.cell? ⟨w.heap.size,4,none⟩=some (.int .u8 (kB k.sum 4))/\X.cell? ⟨w.heap.size,5,none⟩=some (.int .u8 (kB k.sum 5))/\X.cell? ⟨w.heap.size,6,none⟩=some (.int .u8 (kB k.sum 6))/\X.cell? ⟨w.heap.size,7,none⟩=some (.int .u8 (kB k.sum 7)))/\(Instr.lookup 100 (.map (some m)) (.agg #[.int .u8 (kB k.sum 0),.int .u8 (kB k.sum 1),.int .u8 (kB k.sum 2),.int .u8 (kB k.sum 3),.int .u8 (kB k.sum 4),.int .u8 (kB k.sum 5),.int .u8 (kB k.sum 6),.int .u8 (kB k.sum 7)]) false).run prog X=.ok (.agg #[.string k.sum,.int .i64 k.born,.string k.text,.slice ra k.refs.length rc]) X)
  (first|with_reducible exact HS.o _ D0|with_reducible exact HS.o _ B1)
  (first|(go_at_call 176;refine Calls.mono HR.o ?_;rintro e w1 ⟨i,ok,rfl,zD,zG⟩;have zF:Hid _:=zD;clear zD;have B1:Below W.heap.size W w1:=DW zG))
 all_goals
  clear HS HR D0;go_wp2;go_ret;exact⟨ok,rfl,zF.o,hB.trans (B1.mono hB.size)⟩
def Gs (ks:List Kd):Prop:=∀k∈ks,k.refs.length<=1000/\k.refs.Pairwise (fun a b=>less a b=true)
theorem Lh (base d m dp sp:Nat) (oa:Option Addr) (zO:Nat) (P L:Value) (wd now given births:Int) (ks:List Kd) (ps:List Pd) (ls:List Ld) (s:ByteArray) (w:World) (hd:Dr w base d m (.slice oa ks.length zO) P L wd now given births ks ps ls) (zZ:(ks.map (·.sum)).Nodup) (yB:∀k∈ks,(k.sum.size:Int)=wd) (hr:Gs ks) (hl:ks.length<=600)
 (zK:w.cell? ⟨dp,0,none⟩=some (.pointer (some ⟨d,0,none⟩))) (zN:w.cell? ⟨sp,0,none⟩=some (.string s)):
 Calls prog 181 #[.slice oa ks.length zO,.func (.func 175) #[] #[.pointer (some ⟨dp,0,none⟩),.pointer (some ⟨sp,0,none⟩)]] w fun e w'=>∃r:Int,e=.returned (.int .i64 r)/\(0<=r↔∃k∈ks,s∈k.refs)/\Uq w w':=by
 have zX:=World.block_lt_of_cell? w _ zK;have yA:=World.block_lt_of_cell? w _ zN;have HD:Hid _:=hd;clear hd;go_enter func181,ntmps181;go_wp2
 go_loopw [8] (fun i wr=>∃k:Nat,k<=ks.length/\i=.int .i64 k/\Hid (∀j x,j<k->ks[j]?=some x->¬s∈x.refs)/\Uq w wr) (fun i _=>ks.length -(intOf i).toNat)
 case atStart=>exact⟨0,Nat.zero_le _,rfl,(fun j x h=>by omega),Below.refl _ _⟩
 case round=>
  obtain⟨k,hk,rfl,zE,zB⟩:=hrel;have yC:=zB.size;by_cases hlt:k<ks.length
  ·have zF:=Dr.below HD.o zB
   have zD:=zF.ord;obtain⟨og,oc,zY,_,yD⟩:=CM zD (fun e=>by injection e with _ h2 _;omega);cases zY;have hg:Hid _:=Uu hlt;have zC:=List.getElem_mem hlt;have zL:(ks.map (·.sum))[k]?=some ks[k].sum:=by simp[hlt]
   have zA:∀j,j<8->wr.cell? ⟨og,k *8+j,none⟩=some (.int .u8 (kB ks[k].sum j)):=fun j hj=>(zD.cellAt _ (by omega)).trans (EK zL hj);have zJ:=zA 0 (by omega);have zQ:=zA 1 (by omega);have zR:=zA 2 (by omega);have zS:=zA 3 (by omega);have zT:=zA 4 (by omega);have zU:=zA 5 (by omega);have zV:=zA 6 (by omega);have zW:=zA 7 (by omega);rw[Nat.add_zero] at zJ
   have HC:=Px base d m dp sp _ P L wd now given births ks ps ls s ks[k] wr zF zZ yB zC (hr _ zC).1 (hr _ zC).2 ((zB.cell (p:=⟨dp,0,none⟩) zX).trans zK) ((zB.cell (p:=⟨sp,0,none⟩) yA).trans zN);unfold Bt BW at HC;have zG:Hid _:=HC;clear zA zL zD zF zC HC;generalize ks[k]=x at *
   go_wp2_with fail;refine Calls.mono zG.o ?_;rintro e w1 ⟨ok,rfl,zM,zP⟩;have zI:=zB.trans (zP.mono yC);have zH:Hid _:=zM;clear zM zJ zQ zR zS zT zU zV zW zG;cases ok
   ·have HA:Hid (∀j y,j<k+1->ks[j]?=some y->¬s∈y.refs):=by
     intro j y hj hy;rcases Nat.lt_or_ge j k with h'|h'
     ·exact zE.o j y h' hy
     ·obtain rfl:j=k:=by omega
      rw[hg.o] at hy;cases hy;exact fun h=>by have:=zH.o.2 h;simp at this
    go_wp2;exact⟨⟨k+1,by omega,by go_num,HA,zI⟩,by simp[intOf];omega⟩
   ·go_wp2
    go_ret;exact⟨_,rfl,⟨(fun _=>⟨x,Ux hg.o,zH.o.1 (by trivial)⟩),(fun _=>by omega)⟩,zI⟩
  ·go_wp2
   go_ret;refine⟨_,rfl,⟨(fun h=>by omega),(fun⟨p,hp,h⟩=> ?_)⟩,zB⟩;obtain⟨j,hj,rfl⟩:=List.getElem_of_mem hp;exact absurd h (zE.o j _ (by omega) (Uu hj))
theorem Iz (base d m dp sp:Nat) (oa:Option Addr) (zA:Nat) (P L:Value) (wd now given births:Int) (ks:List Kd) (ps:List Pd) (ls:List Ld) (s:ByteArray) (w:World) (hd:Dr w base d m (.slice oa ks.length zA) P L wd now given births ks ps ls) (zE:(ks.map (·.sum)).Nodup) (zG:∀k∈ks,(k.sum.size:Int)=wd) (hr:Gs ks) (hl:ks.length<=600)
 (zD:w.cell? ⟨dp,0,none⟩=some (.pointer (some ⟨d,0,none⟩))) (zF:w.cell? ⟨sp,0,none⟩=some (.string s)):
 Calls prog 174 #[.slice oa ks.length zA,.func (.func 175) #[] #[.pointer (some ⟨dp,0,none⟩),.pointer (some ⟨sp,0,none⟩)]] w fun e w'=>∃ok,e=.returned (.bool ok)/\(ok=true↔∃k∈ks,s∈k.refs)/\Uq w w':=by
 have HI:Hid _:=Lh base d m dp sp oa zA P L wd now given births ks ps ls s w hd zE zG hr hl zD zF;clear hd;go_enter func174,ntmps174;go_wp2_with fail;refine Calls.mono HI.o ?_;rintro e w1 ⟨r,rfl,zC,zB⟩;have HR:Hid _:=zC;clear zC HI;by_cases h:0<=r
 ·have hd:decide ((0:Int)<=r)=true:=by simpa using h
  go_wp2;go_ret;exact⟨true,rfl,⟨(fun _=>HR.o.1 h),(fun _=>rfl)⟩,zB⟩
 ·have hd:decide ((0:Int)<=r)=false:=by simpa using h
  go_wp2;go_ret;exact⟨false,rfl,⟨(fun e=>by cases e),(fun e=>absurd (HR.o.2 e) (by omega))⟩,zB⟩
theorem Oh (base d m:Nat) (O P L:Value) (wd now given births:Int) (ks:List Kd) (ps:List Pd) (ls:List Ld) (s:ByteArray) (w:World) (hd:Dr w base d m O P L wd now given births ks ps ls) (zE:(ks.map (·.sum)).Nodup) (zF:∀k∈ks,(k.sum.size:Int)=wd) (hr:Gs ks) (hl:ks.length<=600):
 Calls prog 160 #[.pointer (some ⟨d,0,none⟩),.string s] w fun e w'=>∃ok,e=.returned (.bool ok)/\(ok=true↔∃k∈ks,s∈k.refs)/\Uq w w':=by
 have zH:∀(fn:Fn) (first cap:Array Value) (w:World),(Instr.makeFunc fn first cap).run prog w=.ok (.func fn first cap) w:=fun _ _ _ _=>rfl;obtain⟨oa,zG,rfl⟩:=AK hd.ord;obtain⟨W,hW⟩:∃W,W=(w.alloc (.cells #[.pointer (some ⟨d,0,none⟩)] 59)).alloc (.cells #[.string s] 9):=⟨_,rfl⟩;have hB:=(Ba hW).1;have cd:W.cell? ⟨w.heap.size,0,none⟩=some (.pointer (some ⟨d,0,none⟩)):=by rw[hW];simp[go_sem]
 have cs:W.cell? ⟨w.heap.size+1,0,none⟩=some (.string s):=by rw[hW];simp[go_sem]
 have zA:=hd.below hB;have HI:Hid _:=Iz base d m w.heap.size (w.heap.size+1) oa zG P L wd now given births ks ps ls s W zA zE zF hr hl cd cs;obtain⟨c5,_⟩:=zA.box 5 _ rfl;have HW:Hid _:=hW;clear hW zA hd cs;go_enter func160,ntmps160;go_upto_region 1 with fail;rw[←HW.o];clear HW;go_wp2_with fail;refine Calls.mono HI.o ?_;rintro e w1 ⟨ok,rfl,zB,zC⟩;have HR:Hid _:=zB
 have zD:=hB.trans (zC.mono hB.size);clear zB HI;go_wp2;go_ret;exact⟨ok,rfl,HR.o,zD⟩
theorem Hh (base d m:Nat) (O P L:Value) (wd now given births:Int) (ks:List Kd) (ps:List Pd) (ls:List Ld) (s:ByteArray) (w:World) (hd:Dr w base d m O P L wd now given births ks ps ls) (zC:(ks.map (·.sum)).Nodup) (zD:∀k∈ks,(k.sum.size:Int)=wd) (hr:Gs ks) (hk:ks.length<=600) (hp:ps.length<=100) (hl:ls.length<=200):
 Calls prog 133 #[.pointer (some ⟨d,0,none⟩),.string s] w fun e w'=>∃ok,e=.returned (.bool ok)/\(ok=true↔((∃p∈ps,p.sum=s)∨∃l∈ls,l.sum=s)∨∃k∈ks,s∈k.refs)/\Uq w w':=by
 have HD:Hid _:=hd;clear hd;go_enter func133,ntmps133;go_wp2_with fail;refine(MY base d m O P L wd now given births ks ps ls s w HD.o hp hl).mono ?_;rintro e w1 ⟨zE,rfl,h1,zA⟩;have H1:Hid _:=h1;clear h1;cases zE
 ·go_wp2_with fail
  refine(Oh base d m O P L wd now given births ks ps ls s w1 (Dr.below HD.o zA) zC zD hr hk).mono ?_;rintro e w2 ⟨zF,rfl,h2,zB⟩;have H2:Hid _:=h2;clear h2;go_wp2;go_ret;exact⟨zF,rfl,⟨(fun e=> .inr (H2.o.1 e)),(fun e=>e.elim (fun e=>by have:=H1.o.2 e;simp at this) H2.o.2)⟩,zA.trans (zB.mono zA.size)⟩
 ·go_wp2
  go_ret;exact⟨true,rfl,⟨(fun _=> .inl (H1.o.1 (by trivial))),(fun _=>rfl)⟩,zA⟩
theorem Dj (base d m:Nat) (O P L:Value) (wd now given births:Int) (ks:List Kd) (ps:List Pd) (ls:List Ld) (s:ByteArray) (w:World) (hd:Dr w base d m O P L wd now given births ks ps ls) (zD:∀k∈ks,(k.sum.size:Int)=wd) (zE:Av ks s):
 Calls prog 121 #[.pointer (some ⟨d,0,none⟩),.string s] w fun e w'=>e=.returned (.tuple #[])/\Uq w w':=by
 obtain⟨n,f,hn,hM,hH⟩:=hd.map;obtain⟨ok,zB,zA⟩:=Gq wd m n f ks w w.heap.size s w hM hH.holds zD;obtain rfl:=zB.2 zE;obtain⟨c0,c1⟩:=Aa.c2 hd.box 0 1;have HC:Hid _:=zA w (Below.refl _ _);clear zA zB hd hM hH;go_enter func121,ntmps121;go_wp2_with fail;refine Calls.mono HC.o ?_;rintro e w1 ⟨rfl,zC⟩;clear HC;go_wp2
 go_end0
 exact⟨rfl,zC⟩
end
structure Tn (V:List Nat) (w w':World):Prop where
 os:w'.os=w.os
 tape:w'.tape=w.tape
 output:w'.output=w.output
 size:w.heap.size<=w'.heap.size
 block:∀b,b<w.heap.size->b∉V->w'.heap[b]?=w.heap[b]?
theorem Tn.of {V:List Nat} {w w':World} (h:Uq w w'):Tn V w w':=⟨h.os,h.tape,h.output,h.size,fun b hb _=>h.block b hb⟩
theorem Tn.grown {V:List Nat} {w w':World} {g:Nat} (h:w.grownBy w' (some g)) (hg:g∈V):Tn V w w':=⟨h.os,h.tape,h.output,h.size,fun b hb hv=>h.block b hb (fun e=>hv (Option.some.inj e▸hg))⟩
theorem Tn.set {V:List Nat} (w:World) (g j:Nat) (v:Value) (hg:g∈V):Tn V w (w.setCell ⟨g,j,none⟩ v):=Tn.grown (Ae w g j v) hg
theorem Tn.trans {V:List Nat} {a b c:World} (h:Tn V a b) (k:Tn V b c):Tn V a c:=
 ⟨k.os.trans h.os,k.tape.trans h.tape,k.output.trans h.output,Uz h.size k.size,fun q hq hv=>(k.block q (Uy hq h.size) hv).trans (h.block q hq hv)⟩
theorem Tn.below {V:List Nat} {w w':World} (h:Tn V w w') {B:Nat} (hB:B<=w.heap.size) (hV:∀b∈V,B<=b):Below B w w':=⟨h.os,h.tape,h.output,h.size,fun b hb=>h.block b (by omega) (fun hv=>by have:=hV b hv;omega)⟩
theorem Tn.mono {V V':List Nat} {w w':World} (h:Tn V w w') (hV:∀b∈V,b∈V'):Tn V' w w':=⟨h.os,h.tape,h.output,h.size,fun b hb hv=>h.block b hb (fun e=>hv (hV b e))⟩
theorem AM.same {w w':World} {K:TypeId} {b n:Nat} {f:Lit->Option Value} (h:AM w K b n f) (hb:w'.heap[b]?=w.heap[b]?):AM w' K b n f:=by
 obtain⟨D,⟨es,clock,h1,h2⟩,h3⟩:=h;exact⟨D,⟨es,clock,hb.trans h1,h2⟩,h3⟩
theorem CA.turn {w w':World} {base:Nat} {V:List Nat} {a:Option Addr} {ss:List ByteArray} (h:CA w base V a ss) (ht:Tn V w w'):CA w' base V a ss:=by
 rcases h with h|⟨b,off,ha,hb,hv,hx,hc⟩
 ·exact .inl h
 ·exact .inr ⟨b,off,ha,Uy hb ht.size,hv,(by rw[ht.block b hb hv];exact hx),fun i s hs=>(World.cell?_of_block (a:=⟨b,off+i,none⟩) (ht.block b hb hv)).trans (hc i s hs)⟩
theorem IA {P:Program} {w:World} {ops:Array Oper} {o:Oper} {a:Act} {K:Act->World->Prop} {Q:Exit->Act->World->Prop} {E:Prop} (zA:o.guard=none) (s x:Operand) (t u:TypeId)
 (ho:o.op=.call {callee:=.builtin .delete,args:= #[s,x],argTypes:= #[t,u]}) {v xv:Value} {w':World} (hs:a.eval s=v) (hx:a.eval x=xv)
 (hr:(Builtin.delete_ #[t,u] o.type #[v,xv]).run P w=.ok (.tuple #[]) w') (h:K (a.put o.dst (.tuple #[])) w'):
 if Region.wanted o (yielded ops a.tmps)=true then Oper.wp P o a w K Q else E:=by
 have hw:Region.wanted o (yielded ops a.tmps)=true:=by simp[Region.wanted,zA]
 rw[if_pos hw];unfold Oper.wp execOp;simp only[ho,resolve,invoke,builtin,Sem.run_bind,Sem.run_pure,Result.andThen_ok,List.map_toArray,List.map_cons,List.map_nil,hs,hx,hr];exact h
def Ez (ks:List Kd) (s:ByteArray):List Kd:=ks.filter (fun k=> !decide (k.sum=s))
theorem Ma {ks:List Kd} (zA:(ks.map (·.sum)).Nodup) {i:Nat} {k:Kd} (hk:ks[i]?=some k):Ez ks k.sum=ks.eraseIdx i:=by
 induction ks generalizing i with
 |nil=>simp at hk
 |cons x xs ih=>
  simp only[List.map_cons,List.nodup_cons,List.mem_map,not_exists,not_and] at zA;cases i with
  |zero=>
   simp at hk;subst hk;unfold Ez;simp only[List.filter_cons,decide_true,Bool.not_true,Bool.false_eq_true,if_false,List.eraseIdx_zero,List.tail_cons];exact List.filter_eq_self.2 (fun y hy=>by simpa using zA.1 y hy)
  |succ i=>
   have zB:xs[i]?=some k:=by simpa using hk
   have hm:=Ux zB;have zC:¬x.sum=k.sum:=fun e=>zA.1 k hm e.symm;have:=ih zA.2 zB;unfold Ez at *
   simp[zC,this]
theorem Oi {ss:List ByteArray} {s:ByteArray} {i:Nat} (h:DP ss s i) (hs:s∈ss) (zA:ss.Pairwise (fun a b=>less a b=true)):ss[i]?=some s:=by
 obtain⟨j,hj⟩:=List.getElem?_of_mem hs;have zC:=(Ut hj).1;rcases Nat.lt_or_ge j i with h'|h'
 ·have:=h.lo j s h' hj
  rw[BL] at this;cases this
 ·rcases Nat.lt_or_ge i j with zB|zB
  ·have h1:=List.pairwise_iff_getElem.1 zA i j (by omega) zC zB
   have h2:=h.hi i _ (Us) (Uu (by omega));obtain⟨_,e⟩:=Ut hj;rw[e] at h1;rw[h1] at h2;cases h2
  ·obtain rfl:j=i:=by omega
   exact hj
structure En (wd:Int) (ks:List Kd):Prop where
 nd:(ks.map (·.sum)).Nodup
 sorted:(ks.map (·.sum)).Pairwise (fun a b=>less a b=true)
 sz:∀k∈ks,(k.sum.size:Int)=wd
 refs:Gs ks
 len:ks.length<=600
 w8:wd<=8
theorem Bd.drop {w w':World} {base:Nat} {V:List Nat} {wd:Int} {ks:List Kd} {f:Lit->Option Value} (h:Bd w base V wd ks f) (ht:Tn V w w') {s:ByteArray} (hs:(s.size:Int)=wd) (h8:wd<=8):Bd w' base V wd (Ez ks s) (ers f (keyL s)):=by
 intro t zC;by_cases hts:t=s
 ·subst hts
  exact .inl ⟨by simp[ers],fun⟨u,hu,zA⟩=>by simp[Ez,zA] at hu⟩
 ·have zB:keyL t≠keyL s:=fun e=>hts (GS e (by omega) (by omega))
  have he:ers f (keyL s) (keyL t)=f (keyL t):=by simp[ers,zB]
  rw[he];rcases h t zC with⟨h1,h2⟩|⟨u,ra,rc,hu,zA,hf,hr⟩
  ·exact .inl ⟨h1,fun⟨u,hu,zA⟩=>h2 ⟨u,(List.mem_filter.1 hu).1,zA⟩⟩
  ·exact .inr ⟨u,ra,rc,List.mem_filter.2 ⟨hu,by simp[zA,hts]⟩,zA,hf,hr.turn ht⟩
theorem Dr.apart {w w':World} {base d m:Nat} {O P L:Value} {wd now given births:Int} {ks:List Kd} {ps:List Pd} {ls:List Ld} (h:Dr w base d m O P L wd now given births ks ps ls) {R:Nat} (ht:Tn [R] w w') (hR:base<=R) (hV:R∉vB d m O P L) (hs:∀zB fz,w.heap[R]?≠some (.cells zB 9 fz)):Dr w' base d m O P L wd now given births ks ps ls:=by
 obtain⟨n,f,h1,h2,h3⟩:=h.map;have zA:∀b,b<w.heap.size->b∈vB d m O P L->w'.heap[b]?=w.heap[b]?:=fun b hb hv=>ht.block b hb (fun e=>hV (by simp at e;exact e▸hv))
 refine⟨Aa.same h.box (zA d h.box.lt (by simp[vB])),⟨n,f,h1,AM.same h2 (zA m h2.lt (by simp[vB])),?_⟩,AD h.ord (fun g hg=>zA g (Af h.ord hg).2 (by simp[vB,hg])),AD h.pin (fun g hg=>zA g (Af h.pin hg).2 (by simp[vB,hg])),AD h.lea (fun g hg=>zA g (Af h.lea hg).2 (by simp[vB,hg])),h.bd,h.bm,h.ap⟩;intro s zE;rcases h3 s zE with h'|⟨u,ra,rc,q1,q2,q3,q4⟩
 ·exact .inl h'
 ·refine .inr ⟨u,ra,rc,q1,q2,q3,?_⟩
  rcases q4 with q4|⟨b,off,ha,hb,hv,hx,hc⟩
  ·exact .inl q4
  ·have zD:b≠R:=by
    rcases hx with hx|⟨_,zB,hx⟩
    ·omega
    ·exact fun e=>hs zB _ (e▸hx)
   have zC:=ht.block b hb (by simpa using zD);exact .inr ⟨b,off,ha,Uy hb ht.size,hv,(by rw[zC];exact hx),fun i s hs=>(World.cell?_of_block (a:=⟨b,off+i,none⟩) zC).trans (hc i s hs)⟩
theorem Py (base d m:Nat) (O P L:Value) (wd now given births:Int) (ks:List Kd) (ps:List Pd) (ls:List Ld) (s:ByteArray) (w:World) (hd:Dr w base d m O P L wd now given births ks ps ls) (zA:En wd ks) (hp:ps.length<=100) (hl:ls.length<=200) (zW:Av ks s) (zH:¬(((∃p∈ps,p.sum=s)∨∃l∈ls,l.sum=s)∨∃k∈ks,s∈k.refs)):
 Calls prog 93 #[.pointer (some ⟨d,0,none⟩),.string s] w fun e w'=>e=.returned (.tuple #[])/\∃O',Dr w' base d m O' P L wd now given births (Ez ks s) ps ls/\O'.ownBlock=O.ownBlock/\Tn (vB d m O P L) w w':=by
 obtain⟨k0,zM,zT⟩:=zW;have zW:Av ks s:=⟨k0,zM,zT⟩;have yP:=zT▸zA.sz k0 zM;have yO:=List.length_pos_of_mem zM;obtain⟨g,cap,rfl,yR,yS⟩:=CM hd.ord (fun e=>by have:=AK hd.ord;obtain⟨a,c,e'⟩:=this;rw[e'] at e;injection e with _ h2 _;omega);have HD:Hid _:=hd;clear hd;go_enter func93,ntmps93;go_wp2_with fail;refine(Dj base d m _ P L wd now given births ks ps ls s w HD.o zA.sz zW).mono ?_
 rintro e w1 ⟨rfl,zF⟩;have zN:Hid _:=Dr.below HD.o zF;go_wp2_with fail;refine(Hh base d m _ P L wd now given births ks ps ls s w1 zN.o zA.nd zA.sz zA.refs zA.len hp hl).mono ?_;rintro e w2 ⟨ok,rfl,zI,zG⟩;obtain rfl:ok=false:=by
  cases ok with
  |false=>rfl
  |true=>exact absurd (zI.1 rfl) zH
 have zX:Hid _:=Dr.below zN.o zG;clear zI zN;go_wp2_with fail;refine(GU s w2).mono ?_;rintro e w3 ⟨rfl,zL⟩;obtain⟨W4,zK⟩:∃W,W=w3.alloc (.cells #[.int .u8 (kB s 0),.int .u8 (kB s 1),.int .u8 (kB s 2),.int .u8 (kB s 3),.int .u8 (kB s 4),.int .u8 (kB s 5),.int .u8 (kB s 6),.int .u8 (kB s 7)] 113):=⟨_,rfl⟩;have yB:=(AC zK).1;have k4:Aa W4 w3.heap.size (Ah s):=by rw[zK];exact Aa.new w3 (Ah s) 113
 have B4:=((zF.trans (zG.mono zF.size)).trans (zL.mono (Uz zF.size zG.size))).trans (yB.mono (Uz (Uz zF.size zG.size) zL.size));have zB:Hid _:=Dr.below (Dr.below zX.o zL) yB;have zZ:Hid _:=zK;clear zK zX;go_upto_region 4 with fail;rw[←zZ.o];clear zZ;obtain⟨n,f,hn,hM,hH⟩:=zB.o.map;obtain⟨w5,zV,yC,yE⟩:=(hM.keep (Below.refl W4.heap.size W4).drew hM.lt).del keyed underlying100 (Dt s) 0
 have yQ:=zB.o.box.lt;have zD:=zB.o.ap;have yD:d≠m:=by
  intro e;unfold vB at zD;simp[e] at zD
 have zP:d≠g/\m≠g:=by
  unfold vB at zD;simp[Value.ownBlock] at zD;omega
 have yU:=(HD.o.map.choose_spec.choose_spec.2.1).lt;have yV:=Uz (Uz zF.size zG.size) zL.size;have zC:=Cl yE;have k5:=Aa.far' (v:=.int .u8 (kB s 0)) k4 zC (by omega);have x5:=Aa.far' zB.o.box zC (fun e=>yD e.symm);have P4:W4.drew.cell? ⟨d,1,none⟩=some (.map (some m))/\_:=⟨(zB.o.box 1 _ rfl).1,EV (w:=W4.drew) k4⟩;have P5:w5.cell? ⟨d,1,none⟩=some (.map (some m))/\_:=⟨(x5 1 _ rfl).1,EV k5⟩
 unfold Bt BW at zV
 go_region_held3 (fun X=>X.cell? ⟨d,1,none⟩=some (.map (some m))/\(X.cell? ⟨w3.heap.size,0,none⟩=some (.int .u8 (kB s 0))/\X.cell? ⟨w3.heap.size,1,none⟩=some (.int .u8 (kB s 1))/\X.cell? ⟨w3.heap.size,2,none⟩=some (.int .u8 (kB s 2))/\X.cell? ⟨w3.heap.size,3,none⟩=some (.int .u8 (kB s 3))/\X.cell? ⟨w3.heap.size,4,none⟩=some (.int .u8 (kB s 4))/\X.cell? ⟨w3.heap.size,5,none⟩=some (.int .u8 (kB s 5))/\X.cell? ⟨w3.heap.size,6,none⟩=some (.int .u8 (kB s 6))/\X.cell? ⟨w3.heap.size,7,none⟩=some (.int .u8 (kB s 7))))
  (first|with_reducible exact P4|with_reducible exact P5)
  (first|(refine IA (by rfl) (.tmp 21) (.tmp 22) 100 113 (by rfl) (by rfl) (by rfl) zV ?_))
 have zU:=World.ownsRow.kept zB.o.ord zC (.inr (fun e=>zP.2 (Option.some.inj e).symm));have HP:=Og base d m g cap P L wd now given births ks s w5 x5 zU zA.len (by have:=zA.w8;omega) (fun x hx=>by have:=zA.sz x hx;omega) zA.sorted;obtain⟨q0,q1,q2,q3,q4,q5,q6,q7⟩:=EV k5;have HQ:Hid _:=HP;unfold Bt BW at HQ;have yA:Hid _:=And.intro x5 zU;have H5:Hid _:=And.intro yC (And.intro zC hH)
 clear HP P4 P5 zV yC yE zC x5 zU k4 k5 hM;go_wp2_with fail;refine Calls.mono HQ.o ?_;rintro e w6 ⟨i,rfl,yK,zO⟩;have zR:=Oi yK (List.mem_map.2 ⟨k0,zM,zT⟩) zA.sorted;have yT:=zA.len;have yF:i<ks.length:=by have:=(Ut zR).1;simpa using this
 have x6:=Aa.below yA.o.1 zO;obtain⟨y5,f5⟩:=x6 5 _ rfl;have yI:w6.ownsRow base 113 8 (.slice (some ⟨g,0,none⟩) (ks.map (·.sum)).length cap) (ks.map (·.sum)).length (AA (ks.map (·.sum))):=by
  rw[List.length_map];exact Ag yA.o.2 zO
 have zE:=Kl g cap i (ks.map (·.sum)) w6 base yI (by rw[List.length_map];exact zA.len) (by rw[List.length_map];exact yF);rw[List.length_map] at zE;have zY:Hid _:=zE;have H6:Hid _:=And.intro zR (And.intro x6 zO);clear yK zR x6 zE yI HQ q0 q1 q2 q3 q4 q5 q6 q7;go_wp2_with fail;refine Calls.mono zY.o ?_;rintro e w7 ⟨rfl,yJ,zQ⟩;have x7:=Aa.far' H6.o.2.1 zQ (fun e=>zP.1 e.symm)
 obtain⟨y7,f7⟩:=x7 5 _ rfl;have H7:Hid _:=And.intro x7 (And.intro yJ zQ);clear x7 yJ zQ y5 f5 zY;go_wp2
 go_end0
 have T3:Tn [d,m,g] W4 (w7.setCell ⟨d,5,none⟩ (.slice (some ⟨g,0,none⟩) (ks.length -1) cap)):=
  (((Tn.grown H5.o.2.1 (by simp)).trans (Tn.of H6.o.2.2)).trans (Tn.grown H7.o.2.2 (by simp))).trans (Tn.set w7 d 5 _ (by simp))
 have zJ:∀b∈[d,m,g],b∈vB d m (.slice (some ⟨g,0,none⟩) ks.length cap) P L:=by
  intro b hb;simp at hb;unfold vB;rcases hb with rfl|rfl|rfl<;>simp[Value.ownBlock]
 have yH:∀v:Value,(v=P∨v=L)->∀b,v.ownBlock=some b->b∉[d,m,g]:=by
  intro v hv b hb yG;unfold vB at zD;rcases hv with rfl|rfl
  ·simp only[List.nodup_cons,List.mem_cons,List.mem_append,Option.mem_toList,hb] at zD
   simp[Value.ownBlock] at zD yG
   grind
  ·simp only[List.nodup_cons,List.mem_cons,List.mem_append,Option.mem_toList,hb] at zD
   simp[Value.ownBlock] at zD yG
   grind
 have yM:∃k,ks[i]?=some k/\k.sum=s:=by
  have:=H6.o.1;rw[List.getElem?_map] at this;cases hk:ks[i]? with
  |none=>rw[hk] at this;cases this
  |some k=>rw[hk] at this;exact⟨k,rfl,by simpa using this⟩
 obtain⟨ki,yN,zS⟩:=yM;have yL:=zS▸Ma zA.nd yN;refine⟨rfl,.slice (some ⟨g,0,none⟩) (ks.length -1) cap,⟨Aa.set H7.o.1 5 _,⟨n,ers f (keyL s),hn,?_,?_⟩,?_,?_,?_,zB.o.bd,zB.o.bm,zD⟩,rfl,(Tn.of B4).trans (T3.mono zJ)⟩
 ·refine AM.same (AM.same (H5.o.1.keep H6.o.2.2 H5.o.1.lt) (H7.o.2.2.block m (Uy H5.o.1.lt H6.o.2.2.size) (fun e=>zP.2 (Option.some.inj e)))) ?_
  exact Below.heap_setCell _ _ _ _ (fun e=>yD e.symm)
 ·exact Bd.drop H5.o.2.2 (T3.mono zJ) yP zA.w8
 ·rw[yL]
  have h1:(ks.eraseIdx i).length=ks.length -1:=by rw[List.length_eraseIdx,if_pos yF]
  rw[h1];have h2:(ks.eraseIdx i).map (·.sum)=(ks.map (·.sum)).eraseIdx i:=by simp[List.eraseIdx_eq_take_drop_succ]
  rw[h2];exact BF H7.o.2.1 (fun b hb=>by simp[Value.ownBlock] at hb;omega) 5 _
 ·exact AD zB.o.pin (fun b hb=>T3.block b (Af zB.o.pin hb).2 (yH P (.inl rfl) b hb))
 ·exact AD zB.o.lea (fun b hb=>T3.block b (Af zB.o.lea hb).2 (yH L (.inr rfl) b hb))
theorem Dr.lts {w:World} {base d m:Nat} {O P L:Value} {wd now given births:Int} {ks:List Kd} {ps:List Pd} {ls:List Ld} (hd:Dr w base d m O P L wd now given births ks ps ls):∀b∈vB d m O P L,b<w.heap.size:=by
 intro b hb;unfold vB at hb;simp only[List.mem_cons,List.mem_append,Option.mem_toList] at hb;rcases hb with rfl|rfl|hb|hb|hb
 ·exact hd.box.lt
 ·exact(hd.map.choose_spec.choose_spec.2.1).lt
 ·exact(Af hd.ord hb).2
 ·exact(Af hd.pin hb).2
 ·exact(Af hd.lea hb).2
def refV (c:Int) (a b:ByteArray):Value:=.iface 144 (.agg #[.int .i64 c,.string a,.string b])
theorem Oj (base d m:Nat) (O P L:Value) (wd now given births:Int) (ks:List Kd) (ps:List Pd) (ls:List Ld) (s:ByteArray) (w:World) (hd:Dr w base d m O P L wd now given births ks ps ls) (zA:En wd ks) (hp:ps.length<=100) (hl:ls.length<=200) (zG:Av ks s) (zD:((∃p∈ps,p.sum=s)∨∃l∈ls,l.sum=s)∨∃k∈ks,s∈k.refs):
 Calls prog 93 #[.pointer (some ⟨d,0,none⟩),.string s] w fun e w'=>e=.panicked [{v:=refV 6 ⟨#[]⟩ ⟨#[]⟩,recovered:=false}]/\Uq w w':=by
 have HD:Hid _:=hd;clear hd;go_enter func93,ntmps93;go_wp2_with fail;refine(Dj base d m O P L wd now given births ks ps ls s w HD.o zA.sz zG).mono ?_;rintro e w1 ⟨rfl,zC⟩;have zE:Hid _:=Dr.below HD.o zC;go_wp2_with fail;refine(Hh base d m O P L wd now given births ks ps ls s w1 zE.o zA.nd zA.sz zA.refs zA.len hp hl).mono ?_;rintro e w2 ⟨ok,rfl,zB,zF⟩;obtain rfl:=zB.2 zD;clear zB zE;go_wp2
 exact⟨rfl,rfl,zC.trans (zF.mono zC.size)⟩
def AJ:List Value:=[.int .i64 0,.int .i64 0,.int .i64 0,.int .i64 0,.int .i64 0,.slice none 0 0,.slice none 0 0,.slice none 0 0,.string ⟨#[]⟩,.int .i64 0,.string ⟨#[]⟩,.string ⟨#[]⟩]
theorem CN {w:World} {b:Nat} (h:Aa w b AJ):(w.cell? ⟨b,0,none⟩=some (.int .i64 0)/\w.frozen? ⟨b,0,none⟩=false)/\(w.cell? ⟨b,1,none⟩=some (.int .i64 0)/\w.frozen? ⟨b,1,none⟩=false)/\(w.cell? ⟨b,2,none⟩=some (.int .i64 0)/\w.frozen? ⟨b,2,none⟩=false)/\(w.cell? ⟨b,3,none⟩=some (.int .i64 0)/\w.frozen? ⟨b,3,none⟩=false)/\(w.cell? ⟨b,4,none⟩=some (.int .i64 0)/\w.frozen? ⟨b,4,none⟩=false)/\(w.cell? ⟨b,5,none⟩=some (.slice none 0 0)/\w.frozen? ⟨b,5,none⟩=false)/\(w.cell? ⟨b,6,none⟩=some (.slice none 0 0)/\w.frozen? ⟨b,6,none⟩=false)/\(w.cell? ⟨b,7,none⟩=some (.slice none 0 0)/\w.frozen? ⟨b,7,none⟩=false)/\(w.cell? ⟨b,8,none⟩=some (.string ⟨#[]⟩)/\w.frozen? ⟨b,8,none⟩=false)/\(w.cell? ⟨b,9,none⟩=some (.int .i64 0)/\w.frozen? ⟨b,9,none⟩=false)/\(w.cell? ⟨b,10,none⟩=some (.string ⟨#[]⟩)/\w.frozen? ⟨b,10,none⟩=false)/\(w.cell? ⟨b,11,none⟩=some (.string ⟨#[]⟩)/\w.frozen? ⟨b,11,none⟩=false):=
 ⟨h 0 _ rfl,h 1 _ rfl,h 2 _ rfl,h 3 _ rfl,h 4 _ rfl,h 5 _ rfl,h 6 _ rfl,h 7 _ rfl,h 8 _ rfl,h 9 _ rfl,h 10 _ rfl,h 11 _ rfl⟩
theorem DX (w:World) (R:Nat) (a0 a1 a2 a3 a4 a5 a6 a7 a8 a9 zA zB:Value):Tn [R] w ((((((((((((w.setCell ⟨R,0,none⟩ a0).setCell ⟨R,1,none⟩ a1).setCell ⟨R,2,none⟩ a2).setCell ⟨R,3,none⟩ a3).setCell ⟨R,4,none⟩ a4).setCell ⟨R,5,none⟩ a5).setCell ⟨R,6,none⟩ a6).setCell ⟨R,7,none⟩ a7).setCell ⟨R,8,none⟩ a8).setCell ⟨R,9,none⟩ a9).setCell ⟨R,10,none⟩ zA).setCell ⟨R,11,none⟩ zB):=
 have h:∀(x:World) (j:Nat) (v:Value),Tn [R] x (x.setCell ⟨R,j,none⟩ v):=fun x j v=>Tn.set x R j v (by simp)
 (((((((((((h w 0 a0).trans (h _ 1 a1)).trans (h _ 2 a2)).trans (h _ 3 a3)).trans (h _ 4 a4)).trans (h _ 5 a5)).trans (h _ 6 a6)).trans (h _ 7 a7)).trans (h _ 8 a8)).trans (h _ 9 a9)).trans (h _ 10 zA)).trans (h _ 11 zB)
theorem Tn.fresh {V:List Nat} {w w1 w':World} {R:Nat} (h1:Tn V w w1) (h2:Tn [R] w1 w') (hR:w.heap.size<=R):Tn V w w':=
 ⟨h2.os.trans h1.os,h2.tape.trans h1.tape,h2.output.trans h1.output,Uz h1.size h2.size,fun b hb hv=>(h2.block b (Uy hb h1.size) (by simp;omega)).trans (h1.block b hb hv)⟩
def TI (s:ByteArray):Array Value:= #[.int .i64 7,.string s,.string ⟨#[]⟩,.int .i64 0,.string ⟨#[]⟩,.slice none 0 0]
theorem MZ (p:Addr) (w:World):
 CallsD prog 61 #[.pointer (some p)] .returning w fun e u' w'=>e=.returned (.tuple #[])/\u'=.returning/\w'=w:=by
 have zA:∀w:World,(binOp BinOp.eql 20 .nilIface .nilIface).run prog w=.ok (.bool true) w:=fun _=>by kernel_rfl
 refine callsD_of_wpS func61 rfl fun c₀ cs hu=> ?_;apply wpS_seq;apply wpS_region;simp[wpOpsS,go_sem,recoverD,hu,ntmps61,Exit.thenS];refine wpS_of_wp ?_;change Code.wp prog _ _ {tmps:= #[Value.pointer (some p),undef,undef,undef,Value.nilIface,undef,undef,undef,undef,undef,undef,undef,undef,undef,undef,undef,undef],defers:=[]} w;go_wp2;cases c₀;simp_all [bodyPostS,results,results61]
theorem SG {w:World} {b:Nat} (h:Aa w b AJ) (a0 a1 a2 a3 a4 a5 a6 a7 a8 a9 zA zB:Value):Aa ((((((((((((w.setCell ⟨b,0,none⟩ a0).setCell ⟨b,1,none⟩ a1).setCell ⟨b,2,none⟩ a2).setCell ⟨b,3,none⟩ a3).setCell ⟨b,4,none⟩ a4).setCell ⟨b,5,none⟩ a5).setCell ⟨b,6,none⟩ a6).setCell ⟨b,7,none⟩ a7).setCell ⟨b,8,none⟩ a8).setCell ⟨b,9,none⟩ a9).setCell ⟨b,10,none⟩ zA).setCell ⟨b,11,none⟩ zB) b [a0,a1,a2,a3,a4,a5,a6,a7,a8,a9,zA,zB]:=
 ((((((((((((h.set 0 a0).set 1 a1).set 2 a2).set 3 a3).set 4 a4).set 5 a5).set 6 a6).set 7 a7).set 8 a8).set 9 a9).set 10 zA).set 11 zB)
def Li (c:Int) (a b:ByteArray):List Value:=[.int .i64 c,.int .i64 0,.int .i64 0,.int .i64 0,.int .i64 0,.slice none 0 0,.slice none 0 0,.slice none 0 0,.string ⟨#[]⟩,.int .i64 0,.string a,.string b]
theorem Mb (R:Nat) (c:Int) (a b:ByteArray) (w:World) (hz:Aa w R AJ):
 CallsD prog 61 #[.pointer (some ⟨R,0,none⟩)] (.panicking [{v:=refV c a b,recovered:=false}]) w fun e u' w'=>e=.returned (.tuple #[])/\u'=.panicking [{v:=refV c a b,recovered:=true}]/\Aa w' R (Li c a b)/\Tn [R] w w':=by
 have zB:∀w:World,(binOp BinOp.eql 20 (.iface 144 (.agg #[.int .i64 c,.string a,.string b])) .nilIface).run prog w=.ok (.bool false) w:=fun _=>by first|rfl|kernel_rfl
 have zE:∀w:World,(Instr.typeAssert (.iface 144 (.agg #[.int .i64 c,.string a,.string b])) 20 144 true).run prog w=.ok (.tuple #[.agg #[.int .i64 c,.string a,.string b],.bool true]) w:=fun _=>by first|rfl|kernel_rfl
 obtain⟨⟨y0,q0⟩,⟨y1,q1⟩,⟨y2,q2⟩,⟨y3,q3⟩,⟨y4,q4⟩,⟨y5,q5⟩,⟨y6,q6⟩,⟨y7,q7⟩,⟨y8,q8⟩,⟨y9,q9⟩,⟨zH,zF⟩,zI,zG⟩:=CN hz;have zC:=Aa.lt (v:=.int .i64 0) hz;have zD:¬w.heap.size=R:=by omega
 have zA:¬R=w.heap.size:=by omega
 unfold refV;refine callsD_of_wpS func61 rfl fun c₀ cs hu=> ?_;apply wpS_seq;apply wpS_region;simp[wpOpsS,go_sem,recoverD,hu,ntmps61,Exit.thenS];refine wpS_of_wp ?_;change Code.wp prog _ _ {tmps:= #[Value.pointer (some ⟨R,0,none⟩),undef,undef,undef,.iface 144 (.agg #[.int .i64 c,.string a,.string b]),undef,undef,undef,undef,undef,undef,undef,undef,undef,undef,undef,undef],defers:=[]} w;go_wp2
 simp[bodyPostS,results,results61];exact⟨Aa.below (v:=.int .i64 c) (SG hz _ _ _ _ _ _ _ _ _ _ _ _) (Ur),(DX w R _ _ _ _ _ _ _ _ _ _ _ _).trans (Tn.of (Ur))⟩
theorem BY.low {W w:World} {B:Nat} {wd:Int} {ks:List Kd} {f:Lit->Option Value} (h:BY W B wd ks f) (hb:Below B W w):BY w B wd ks f:=by
 intro s hs;rcases h s hs with h|⟨u,ra,rc,h1,h2,h3,h4⟩
 ·exact .inl h
 ·exact .inr ⟨u,ra,rc,h1,h2,h3,Ad.below h4 hb⟩
def HU (w:World) (base m:Nat) (wd:Int) (ks:List Kd):Prop:=∃n f,n<=1000000/\AM w 113 m n f/\BY w base wd ks f/\m<base+4
theorem Gt (w:World) (R j:Nat) (v:Value):Tn [R] w (w.setCell ⟨R,j,none⟩ v):=Tn.set w R j v (by simp)
theorem CO {w w':World} {b:Option Nat} (hg:w.grownBy w' b):Tn b.toList w w':=⟨hg.os,hg.tape,hg.output,hg.size,fun k hk hv=>hg.block k hk (fun e=>hv (by simp[←e]))⟩
def HN (w:World) (m N:Nat):Prop:=∃n f,n<=N/\AM w 113 m n f
theorem Lj (wd now given births:Int) (a p l:Option Addr) (ac pc lc:Nat) (ks:List Kd) (ps:List Pd) (ls:List Ld) (w:World) (zF:BC w w.heap.size a p l ks ps ls) (hk:ks.length<=600) (hp:ps.length<=100) (hl:ls.length<=200) (yX:∀k∈ks,(k.sum.size:Int)=wd) (h8:wd<=8):
 Calls prog 37 #[.agg #[.int .i64 wd,.int .i64 now,.int .i64 given,.int .i64 births,.slice a ks.length ac,.slice p ps.length pc,.slice l ls.length lc]] w fun e w'=>∃d m O P L,e=.returned (.pointer (some ⟨d,0,none⟩))/\Dr w' (w.heap.size+1) d m O P L wd now given births ks ps ls/\HU w' (w.heap.size+1) m wd ks/\(HN w' m 600/\m<=w.heap.size+3)/\Uq w w':=by
 have hx:=By.new w wd now given births (.slice a ks.length ac) (.slice p ps.length pc) (.slice l ls.length lc) 32;obtain⟨W0,zI⟩:∃W,W=w.alloc (.cells #[.int .i64 wd,.int .i64 now,.int .i64 given,.int .i64 births,.slice a ks.length ac,.slice p ps.length pc,.slice l ls.length lc] 32):=⟨_,rfl⟩;have zB:=(AC zI).1;have yL:=(AC zI).2.1;rw[←zI] at hx;have zE:Hid _:=zF;have HX:Hid _:=hx;have yB:Hid _:=zI
 have S0:=Hg hx
 have yI:W0.drew.cell? ⟨w.heap.size,0,none⟩=some (.int .i64 wd)/\W0.drew.cell? ⟨w.heap.size,1,none⟩=some (.int .i64 now)/\W0.drew.cell? ⟨w.heap.size,2,none⟩=some (.int .i64 given)/\W0.drew.cell? ⟨w.heap.size,3,none⟩=some (.int .i64 births)/\W0.drew.cell? ⟨w.heap.size,4,none⟩=some (.slice a ks.length ac)/\W0.drew.cell? ⟨w.heap.size,5,none⟩=some (.slice p ps.length pc)/\W0.drew.cell? ⟨w.heap.size,6,none⟩=some (.slice l ls.length lc):=S0
 have K0:BP W0.drew W0.drew.heap.size a ks:=BP.mono (BP.below zF.k zB.drew) zB.size;have yS:ks.length<=1048576:=by omega
 have yW:ps.length<=1048576:=by omega
 have yT:ls.length<=1048576:=by omega
 clear zF hx zI;go_enter func37,ntmps37;go_upto_region 1 with fail;rw[←yB.o];clear yB
 go_region_held3 (fun w'=>w'.cell? ⟨w.heap.size,0,none⟩=some (.int .i64 wd)/\w'.cell? ⟨w.heap.size,1,none⟩=some (.int .i64 now)/\w'.cell? ⟨w.heap.size,2,none⟩=some (.int .i64 given)/\w'.cell? ⟨w.heap.size,3,none⟩=some (.int .i64 births)/\w'.cell? ⟨w.heap.size,4,none⟩=some (.slice a ks.length ac)/\w'.cell? ⟨w.heap.size,5,none⟩=some (.slice p ps.length pc)/\w'.cell? ⟨w.heap.size,6,none⟩=some (.slice l ls.length lc))
  (first|exact S3|exact S2|exact S1|exact yI|exact Hg (By.below X3.o (Ur)))
  (first
  |(go_at_call 57;refine(Hf wd now given births a ac (.slice p ps.length pc) (.slice l ls.length lc) ks W0.drew K0 yS yX h8).mono ?_;rintro e w1 ⟨m,f,rfl,hm,hM,hH,zT⟩;have B1:Below W0.heap.size W0 w1:=(Below.refl W0.heap.size W0).drew.trans zT;have S1:=Hg (By.below HX.o B1))
  |(go_at_call 43;refine(ET p pc ps w1 (Bo.mono (Bo.below zE.o.p (zB.trans (B1.mono zB.size))) (zB.trans (B1.mono zB.size)).size) yW).mono ?_;rintro e w2 ⟨p2,zD,rfl,zV,zL⟩;have B2:Below W0.heap.size W0 w2:=B1.trans (zL.mono B1.size);have S2:=Hg (By.below HX.o B2))
  |(go_at_call 44;refine(Em l lc ls w2 (Bj.mono (Bj.below zE.o.l (zB.trans (B2.mono zB.size))) (zB.trans (B2.mono zB.size)).size) yT).mono ?_;rintro e w3 ⟨l3,zC,rfl,zW,zG⟩;have B3:Below W0.heap.size W0 w3:=B2.trans (zG.mono B2.size);have X3:Hid _:=By.below HX.o B3;have S3:=Hg X3.o))
 obtain⟨W4,zJ⟩:∃W,W=w3.alloc (.cells #[.int .i64 wd,.map (some m),.int .i64 now,.int .i64 given,.int .i64 births,.slice none 0 0,.slice p2 ps.length zD,.slice l3 ls.length zC] 105):=⟨_,rfl⟩;have xE:=(AC zJ).2.1;have zH:=(AC zJ).1;have Z4:=(AC zJ).2.2;have yY:w.heap.size+1<=w1.heap.size:=by have:=B1.size;omega
 have zX:=zL.size;have yZ:=zG.size;have yV:m<w1.heap.size:=hM.lt;have B4:Below w.heap.size w W4:=(zB.trans (B3.mono zB.size)).trans (zH.mono (by omega));have zY:Hid (Below W0.drew.heap.size W0.drew W4):=((zT.trans (zL.mono (by simp;omega))).trans (zG.mono (by simp;omega))).trans (zH.mono (by simp;omega));have yD:Hid _:=By.below X3.o zH
 have zN:Hid (AM W4 113 m ks.length f):=hM.keep (B:=w1.heap.size) ((zL.trans (zG.mono zX)).trans (zH.mono (by omega))) yV;have yN:Hid (W4.ownsRow w1.heap.size 108 2 (.slice p2 ps.length zD) ps.length (Ab pC ps)):=Ag (Ag zV zG) zH;have yM:Hid (W4.ownsRow w2.heap.size 111 3 (.slice l3 ls.length zC) ls.length (Ab lC ls)):=Ag zW zH
 have zO:Hid (∀g,(Value.slice p2 ps.length zD).ownBlock=some g->w1.heap.size<=g/\g<w2.heap.size):=fun g hg=>Af zV hg;have zM:Hid (∀g,(Value.slice l3 ls.length zC).ownBlock=some g->w2.heap.size<=g/\g<w3.heap.size):=fun g hg=>Af zW hg;have HH:Hid _:=hH;have yE:Hid _:=Z4;have yU:w.heap.size+1<=m/\m<=w.heap.size+3:=by have:=hm;simp at this;omega
 rw[←zJ];clear zJ S0 yI S1 S2 S3 X3 HX B1 B2 B3 zT zL zG hM zV zW hH Z4 K0 hm;obtain⟨x0,x1,x2,x3,x4,x5,x6,x7⟩:=yD.o;go_wp2
 go_loopw [25] (fun i wr=>∃(k:Nat) (O:Value),k<=ks.length/\i=.int .i64 k/\Hid (Aa wr w3.heap.size [.int .i64 wd,.map (some m),.int .i64 now,.int .i64 given,.int .i64 births,O,.slice p2 ps.length zD,.slice l3 ls.length zC])/\Hid (wr.ownsRow (w3.heap.size+1) 113 8 O ((ks.take k).map (·.sum)).length (AA ((ks.take k).map (·.sum))))/\Below w3.heap.size W4 wr) (fun i _=>ks.length -(intOf i).toNat)
 case atStart=>exact⟨0,_,Nat.zero_le _,rfl,yE,⟨rfl,.inl ⟨rfl,rfl⟩⟩,Below.refl _ _⟩
 case round=>
  clear x0 x1 x2 x3 x4 x5 x6 x7 yE;obtain⟨k,O,xB,rfl,HZ,HO,zA⟩:=hrel;obtain⟨x0,x1,x2,x3,x4,x5,x6,x7⟩:=By.keep yD.o zA (by omega);have xG:w3.heap.size+1<=wr.heap.size:=by have:=zA.size;omega
  by_cases hlt:k<ks.length
  ·obtain⟨b,off,ha,hb,hc⟩:=(BP.below zE.o.k (B4.trans (zA.mono (by omega)))).at hlt
   subst ha;have HG:Hid (ks[k]?=some ks[k]):=Uu hlt;obtain⟨c0,c1,c2,ra,rc,c3,_⟩:=hc k _ HG.o;have xA:b<wr.heap.size:=by omega
   have HN:Hid ((ks.take (k+1)).map (·.sum)=(ks.take k).map (·.sum)++[ks[k].sum]):=by
    show _=_;rw[Uv hlt,List.map_append];rfl
   have xC:((ks.take k).map (·.sum)).length<=600:=by simp;omega
   clear hc;generalize ks[k]=x at *
   generalize (ks.take k).map (·.sum)=Os at *
   obtain⟨W5,zK⟩:∃W,W=wr.alloc (.cells #[.string x.sum,.int .i64 x.born,.string x.text,.slice ra x.refs.length rc] 115):=⟨_,rfl⟩;have xF:=(AC zK).2.1;have b5:=(AC zK).1;have Z5:=(AC zK).2.2;have HOr:Hid _:=HO.o;have yA:Hid _:=Ag HO.o b5;have zQ:Hid _:=Aa.below HZ.o b5;have zZ:Hid (Below w3.heap.size W4 W5):=zA.trans (b5.mono (by omega))
   have P5:W5.drew.cell? ⟨w3.heap.size,5,none⟩=some O/\W5.drew.cell? ⟨wr.heap.size,0,none⟩=some (.string x.sum):=⟨(zQ.o 5 _ rfl).1,(Z5 0 _ rfl).1⟩;have D5:Below W5.heap.size W5 W5.drew:=(Below.refl _ _).drew;have yC:Hid _:=zK;clear zK Z5 HO HZ;go_upto_region 5 with fail;rw[←yC.o];clear yC x0 x1 x2 x3 x4 x5 x6 x7 c0 c1 c2 c3;obtain⟨zR,zS⟩:=P5
   have zU:∀g,O.ownBlock=some g->w3.heap.size+1<=g/\g<wr.heap.size:=fun g hg=>Af HOr.o hg;have xD:wr.heap.size≠w3.heap.size:=by omega
   go_region_law (first
    |(go_simp;go_at_call 58;refine(GU x.sum W5.drew).mono ?_;rintro e w6 ⟨rfl,yJ⟩;have b6:Below W5.heap.size W5 w6:=D5.trans yJ;have yO:w6.cell? ⟨w3.heap.size,5,none⟩=some O:=(b6.cell (p:=⟨w3.heap.size,5,none⟩) (by simp;omega)).trans zR;have yF:w6.cell? ⟨wr.heap.size,0,none⟩=some (.string x.sum):=(b6.cell (p:=⟨wr.heap.size,0,none⟩) (by simp;omega)).trans zS;have b7:Below W5.heap.size W5 (w6.alloc (DI x.sum)):=b6.alloc b6.size _;have yG:(w6.alloc (DI x.sum)).cell? ⟨w3.heap.size,5,none⟩=some O:=(b7.cell (p:=⟨w3.heap.size,5,none⟩) (by simp;omega)).trans zR;have yH:(w6.alloc (DI x.sum)).cell? ⟨wr.heap.size,0,none⟩=some (.string x.sum):=(b7.cell (p:=⟨wr.heap.size,0,none⟩) (by simp;omega)).trans zS;have z6:=b6.size;obtain⟨g8,c8,w8,hr8,ho8,hg8,ha8⟩:=Qq w6 (w3.heap.size+1) O Os (Ag yA.o b6) x.sum (by omega) (by omega) 103;have Z6:=Aa.below zQ.o b6;unfold DI at hr8 yG yH;go_wp2_with fail)
    |(refine BB (by rfl) (.tmp 33) (.tmp 37) 103 103 (by rfl) (by rfl) (by rfl) hr8 ?_;have yQ:w8.cell? ⟨wr.heap.size,0,none⟩=some (.string x.sum):=hg8.cell yF (fun e=>by have:=(zU _ e.symm).2;simp at this);have Z8:Aa w8 w3.heap.size _:=(Aa.same Z6 (hg8.block w3.heap.size (by omega) (fun e=>by have:=(zU _ e.symm).1;omega)));have yP:=(Z8 5 _ rfl).1;have F8:=(Z8 5 _ rfl).2))
   all_goals
    have yK:Below w3.heap.size W4 w8:=(zZ.o.trans (b6.mono (by omega))).grown hg8 (by omega) (fun g hg=>by have:=(zU g hg).1;omega);have zP:Hid _:=And.intro Z8 (And.intro yK ho8);clear Z8 yK ho8 hg8 hr8 Z6 b6 b7 yJ yA zQ zZ zR zS yO yF yG yH yP yQ F8 ha8 D5 b5;go_wp2;refine⟨⟨k+1,.slice (some ⟨g8,0,none⟩) (Os.length+1) c8,by omega,by go_num,?_,?_,?_⟩,by simp[intOf];omega⟩
    ·exact Aa.set zP.o.1 5 _
    ·rw[HN.o]
     exact ownsRow_setCell_below zP.o.2.2 (by simp<;>omega) _
    ·exact zP.o.2.1.setCell (by simp) _
  ·obtain rfl:k=ks.length:=by omega
   rw[Uw (Us)] at HO;go_wp2;have yR:(vB w3.heap.size m O (.slice p2 ps.length zD) (.slice l3 ls.length zC)).Nodup:=by
    have hO:∀g,O.ownBlock=some g->w3.heap.size+1<=g:=fun g hg=>(Af HO.o hg).1;have hP:∀g,(Value.slice p2 ps.length zD).ownBlock=some g->w1.heap.size<=g/\g<w2.heap.size:=zO.o;have hL:∀g,(Value.slice l3 ls.length zC).ownBlock=some g->w2.heap.size<=g/\g<w3.heap.size:=zM.o;unfold vB;generalize (Value.slice p2 ps.length zD).ownBlock=bp at *
    generalize (Value.slice l3 ls.length zC).ownBlock=bl at *
    generalize O.ownBlock=bo at *
    cases bo<;>cases bp<;>cases bl<;>simp_all<;>omega
   have hV:∀q∈vB w3.heap.size m O (.slice p2 ps.length zD) (.slice l3 ls.length zC),w.heap.size+1<=q:=by
    intro q hq;unfold vB at hq;simp only[List.mem_cons,List.mem_append,Option.mem_toList] at hq;rcases hq with rfl|rfl|hq|hq|hq
    ·omega
    ·omega
    ·have:=(Af HO.o hq).1;omega
    ·have:=(zO.o _ hq).1;omega
    ·have:=(zM.o _ hq).1;omega
   go_ret;refine⟨_,rfl,m,⟨O,_,_,⟨HZ.o,⟨ks.length,f,by omega,zN.o.keep zA (by omega),?_⟩,?_,?_,?_,by omega,by omega,yR⟩⟩,⟨ks.length,f,by omega,zN.o.keep zA (by omega),?hu,by omega⟩,⟨⟨ks.length,f,hk,zN.o.keep zA (by omega)⟩,yU.2⟩,B4.trans (zA.mono (by omega))⟩
   ·have hq:W0.drew.heap.size=w.heap.size+1:=yL
    rw[←hq];exact Bd.of HH.o (zY.o.trans (zA.mono (by simp;omega))) (fun q hq=>by have:=hV q hq;simp;omega) ⟨m,rfl,by rw[hq];omega⟩
   ·have:=HO.o
    rw[List.length_map] at this;exact this.mono (by omega)
   ·refine World.ownsRow.mono ?_ (show w.heap.size+1<=w1.heap.size by omega)
    exact Gr yN.o zA (fun g hg=>by have:=(zO.o g hg).2;omega)
   ·refine World.ownsRow.mono ?_ (show w.heap.size+1<=w2.heap.size by omega)
    exact Gr yM.o zA (fun g hg=>by have:=(zM.o g hg).2;omega)
   case hu=>
    have hq:W0.drew.heap.size=w.heap.size+1:=yL;rw[←hq];exact BY.low HH.o (zY.o.trans (zA.mono (by simp;omega)))
end Go.Proofs.YtflhhhnlhlaehaaGreatDoor
