import Derived.Test.YtpekbmegopfhfaaGreatDoorK06
import Derived.WalkLawsBesides
import Derived.Defers
import Derived.Recover
set_option maxRecDepth 100000
set_option maxHeartbeats 16000000
namespace Go.Proofs.YtpekbmegopfhfaaGreatDoor
open Go.ChangeShapes Go.WideShapes Go.ChangeAt Go.RowKit _root_.Go.Proofs.Tryz
section
attribute [local go_sem↓] Go.wp_at_zero Go.wp_at_succ
theorem BC.holds {w:World} {base:Nat} {V:List Nat} {wd:Int} {ks:List Kd} {f:Lit->Option Value} (h:BC w base V wd ks f):CI w w.heap.size wd ks f:=by
 intro s hs;rcases h s hs with h|⟨u,ra,rc,h1,h2,h3,h4⟩
 ·exact .inl h
 ·exact .inr ⟨u,ra,rc,h1,h2,h3,h4.row⟩
theorem Dr.look {w:World} {base d m:Nat} {O P L:Value} {wd now given births:Int} {ks:List Kd} {ps:List Pd} {ls:List Ld} (h:Dr w base d m O P L wd now given births ks ps ls) (zC:(ks.map (·.sum)).Nodup) (zE:∀k∈ks,(k.sum.size:Int)=wd) {k:Kd} (hk:k∈ks):
 ∃ra rc,Ae w w.heap.size ra k.refs/\∀X,Xz w X->(Instr.lookup 126 (.map (some m)) (Cc k.sum) false).run prog X=.ok (DK k ra rc) X:=by
 obtain⟨n,f,hn,hM,hH⟩:=h.map;rcases hH _ (zE k hk) with⟨_,zF⟩|⟨u,ra,rc,hu,zG,zA,zB⟩
 ·exact absurd ⟨_,hk,rfl⟩ zF
 ·obtain rfl:=Jj zC hu hk zG
  refine⟨ra,rc,zB.row,fun X hX=> ?_⟩;have:=(hM.keep hX hM.lt).look keyed underlying126 (Ji _) (Ee u.sum);rw[zA] at this;exact this
theorem SK (base d m dp sp:Nat) (O P L:Value) (wd now given births:Int) (ks:List Kd) (ps:List Pd) (ls:List Ld) (s:ByteArray) (k:Kd) (w:World) (hd:Dr w base d m O P L wd now given births ks ps ls) (zK:(ks.map (·.sum)).Nodup) (zN:∀k∈ks,(k.sum.size:Int)=wd) (hk:k∈ks) (hr:k.refs.length<=1000) (zA:k.refs.Pairwise (fun a b=>less a b=true))
 (zF:w.cell? (XL dp 0)=some (.pointer (some ⟨d,0,none⟩))) (zE:w.cell? (XL sp 0)=some (.string s)):
 Calls prog 253 #[Cc k.sum,.pointer (some ⟨dp,0,none⟩),.pointer (some ⟨sp,0,none⟩)] w fun e w'=>∃ok,e=.returned (.bool ok)/\(ok=true↔s∈k.refs)/\Xz w w':=by
 obtain⟨ra,rc,zB,zC⟩:=hd.look zK zN hk;have zO:=World.block_lt_of_cell? w _ zF;have zJ:=World.block_lt_of_cell? w _ zE;obtain⟨W,hW⟩:∃W,W=w.alloc (.cells #[.int .u8 (kB k.sum 0),.int .u8 (kB k.sum 1),.int .u8 (kB k.sum 2),.int .u8 (kB k.sum 3),.int .u8 (kB k.sum 4),.int .u8 (kB k.sum 5),.int .u8 (kB k.sum 6),.int .u8 (kB k.sum 7)] 139):=⟨_,rfl⟩;have hB:=(Aq hW).1
 have cb:Aa W w.heap.size (Aj k.sum):=by rw[hW];exact Aa.new w (Aj k.sum) 139
 have zH:w.heap.size<W.heap.size:=Aa.lt (v:=.int .u8 (kB k.sum 0)) cb;unfold Cc CF DK at zC
 have HS:Hid (∀X,Xz W X->X.cell? (XL dp 0)=some (.pointer (some ⟨d,0,none⟩))/\X.cell? (XL sp 0)=some (.string s)/\X.cell? (XL d 1)=some (.map (some m))/\(X.cell? (XL (w.heap.size) 0)=some (.int .u8 (kB k.sum 0))/\X.cell? (XL (w.heap.size) 1)=some (.int .u8 (kB k.sum 1))/\X.cell? (XL (w.heap.size) 2)=some (.int .u8 (kB k.sum 2))/\X.cell? (XL (w.heap.size) 3)=some (.int .u8 (kB k.sum 3))/\X.cell? (XL (w.heap.size) 4)=some (.int .u8 (kB k.sum 4))/\X.cell? (XL (w.heap.size) 5)=some (.int .u8 (kB k.sum 5))/\X.cell? (XL (w.heap.size) 6)=some (.int .u8 (kB k.sum 6))/\X.cell? (XL (w.heap.size) 7)=some (.int .u8 (kB k.sum 7)))/\(Instr.lookup 126 (.map (some m)) (.agg #[.int .u8 (kB k.sum 0),.int .u8 (kB k.sum 1),.int .u8 (kB k.sum 2),.int .u8 (kB k.sum 3),.int .u8 (kB k.sum 4),.int .u8 (kB k.sum 5),.int .u8 (kB k.sum 6),.int .u8 (kB k.sum 7)]) false).run prog X=.ok (.agg #[.string k.sum,XJ k.born,.string k.text,.slice ra k.refs.length rc]) X):=
  fun X hX=>by
   have hb:=hB.trans (hX.mono hB.size);exact⟨(hb.cell (p:=⟨dp,0,none⟩) zO).trans zF,(hb.cell (p:=⟨sp,0,none⟩) zJ).trans zE,(Aa.below hd.box hb 1 _ rfl).1,Ww (hX.block _ zH) cb,zC X hb⟩
 have HR:Hid _:=NC ra rc k.refs s W.drew (Ae.mono (Ae.below zB hB.drew) hB.size) hr zA;have D0:Below W.heap.size W W.drew:=(Below.refl _ _).drew;have zP:∀X:World,(Instr.field 114 (.agg #[.string k.sum,XJ k.born,.string k.text,.slice ra k.refs.length rc]) 2).run prog X=.ok (.agg #[.string k.text,.slice ra k.refs.length rc]) X:=fun _=>by kernel_rfl
 have zR:∀X:World,(Instr.field 66 (.agg #[.string k.text,.slice ra k.refs.length rc]) 1).run prog X=.ok (.slice ra k.refs.length rc) X:=fun _=>by kernel_rfl
 have HW:Hid _:=hW;clear hW cb zC zB;unfold Cc CF;go_enter func253,ntmps253;go_upto_region 1 with fail;rw[←HW.o];clear HW
 go_region_held3 (fun X=>X.cell? (XL dp 0)=some (.pointer (some ⟨d,0,none⟩))/\X.cell? (XL sp 0)=some (.string s)/\X.cell? (XL d 1)=some (.map (some m))/\(X.cell? (XL (w.heap.size) 0)=some (.int .u8 (kB k.sum 0))/\X.cell? (XL (w.heap.size) 1)=some (.int .u8 (kB k.sum 1))/\X.cell? (XL (w.heap.size) 2)=some (.int .u8 (kB k.sum 2))/\X.cell? (XL (w.heap.size) 3)=some (.int .u8 (kB k.sum 3))/\X.cell? (XL (w.heap.size) 4)=some (.int .u8 (kB k.sum 4))/\X.cell? (XL (w.heap.size) 5)=some (.int .u8 (kB k.sum 5))/\X.cell? (XL (w.heap.size) 6)=some (.int .u8 (kB k.sum 6))/\X.cell? (XL (w.heap.size) 7)=some (.int .u8 (kB k.sum 7)))/\(Instr.lookup 126 (.map (some m)) (.agg #[.int .u8 (kB k.sum 0),.int .u8 (kB k.sum 1),.int .u8 (kB k.sum 2),.int .u8 (kB k.sum 3),.int .u8 (kB k.sum 4),.int .u8 (kB k.sum 5),.int .u8 (kB k.sum 6),.int .u8 (kB k.sum 7)]) false).run prog X=.ok (.agg #[.string k.sum,XJ k.born,.string k.text,.slice ra k.refs.length rc]) X)
  (first|with_reducible exact HS.o _ D0|with_reducible exact HS.o _ B1)
  (first|(go_at_call 254;refine Calls.mono HR.o ?_;rintro e w1 ⟨i,ok,rfl,zG,zI⟩;have zM:Hid _:=zG;clear zG;have B1:Below W.heap.size W w1:=Dd zI))
 all_goals
  clear HS HR D0;go_wp2;go_ret;exact⟨ok,rfl,zM.o,hB.trans (B1.mono hB.size)⟩
def Il (ks:List Kd):Prop:=∀k∈ks,k.refs.length<=1000/\k.refs.Pairwise (fun a b=>less a b=true)
theorem MD (base d m dp sp:Nat) (oa:Option Addr) (zN:Nat) (P L:Value) (wd now given births:Int) (ks:List Kd) (ps:List Pd) (ls:List Ld) (s:ByteArray) (w:World) (hd:Dr w base d m (.slice oa ks.length zN) P L wd now given births ks ps ls) (zW:(ks.map (·.sum)).Nodup) (yA:∀k∈ks,(k.sum.size:Int)=wd) (hr:Il ks) (hl:ks.length<=600)
 (zJ:w.cell? (XL dp 0)=some (.pointer (some ⟨d,0,none⟩))) (zI:w.cell? (XL sp 0)=some (.string s)):
 Calls prog 260 #[.slice oa ks.length zN,.func (.func 253) #[] #[.pointer (some ⟨dp,0,none⟩),.pointer (some ⟨sp,0,none⟩)]] w fun e w'=>∃r:Int,e=.returned (XJ r)/\(0<=r↔∃k∈ks,s∈k.refs)/\Xz w w':=by
 have yF:=World.block_lt_of_cell? w _ zJ;have zV:=World.block_lt_of_cell? w _ zI;have HD:Hid _:=hd;clear hd;go_enter func260,ntmps260;go_wp2
 go_loopw [8] (fun i wr=>∃k:Nat,k<=ks.length/\i=XJ k/\Hid (∀j x,j<k->ks[j]?=some x->¬s∈x.refs)/\Xz w wr) (fun i _=>ks.length -(intOf i).toNat)
 case atStart=>exact⟨0,Nat.zero_le _,rfl,(fun j x h=>by omega),Below.refl _ _⟩
 case round=>
  obtain⟨k,hk,rfl,zF,zB⟩:=hrel;have zZ:=zB.size;by_cases hlt:k<ks.length
  ·have zG:=Dr.below HD.o zB
   have zE:=zG.ord;obtain⟨og,oc,yD,_,yG⟩:=BR zE (fun e=>by injection e with _ h2 _;omega);cases yD;have hg:Hid _:=XD hlt;have zC:=List.getElem_mem hlt;have zR:(ks.map (·.sum))[k]?=some ks[k].sum:=by simp[hlt]
   have zA:∀j,j<8->wr.cell? (XL og (k *8+j))=some (.int .u8 (kB ks[k].sum j)):=fun j hj=>(zE.cellAt _ (by omega)).trans (FN zR hj);have zK:=zA 0 (by omega);have yB:=zA 1 (by omega);have zU:=zA 2 (by omega);have yE:=zA 3 (by omega);have zX:=zA 4 (by omega);have zS:=zA 5 (by omega);have zY:=zA 6 (by omega);have yC:=zA 7 (by omega);rw[Nat.add_zero] at zK
   have HC:=SK base d m dp sp _ P L wd now given births ks ps ls s ks[k] wr zG zW yA zC (hr _ zC).1 (hr _ zC).2 ((zB.cell (p:=⟨dp,0,none⟩) yF).trans zJ) ((zB.cell (p:=⟨sp,0,none⟩) zV).trans zI);unfold Cc CF at HC;have zH:Hid _:=HC;clear zA zR zE zG zC HC;generalize ks[k]=x at *
   go_wp2_with fail;refine Calls.mono zH.o ?_;rintro e w1 ⟨ok,rfl,zP,zT⟩;have zO:=zB.trans (zT.mono zZ);have zM:Hid _:=zP;clear zP zK yB zU yE zX zS zY yC zH;cases ok
   ·have HA:Hid (∀j y,j<k+1->ks[j]?=some y->¬s∈y.refs):=by
     intro j y hj hy;rcases Nat.lt_or_ge j k with h'|h'
     ·exact zF.o j y h' hy
     ·obtain rfl:j=k:=by omega
      rw[hg.o] at hy;cases hy;exact fun h=>by have:=zM.o.2 h;simp at this
    go_wp2;exact⟨⟨k+1,by omega,by go_num,HA,zO⟩,by simp[intOf];omega⟩
   ·go_wp2
    go_ret;exact⟨_,rfl,⟨(fun _=>⟨x,XG hg.o,zM.o.1 (by trivial)⟩),(fun _=>by omega)⟩,zO⟩
  ·go_wp2
   go_ret;refine⟨_,rfl,⟨(fun h=>by omega),(fun⟨p,hp,h⟩=> ?_)⟩,zB⟩;obtain⟨j,hj,rfl⟩:=List.getElem_of_mem hp;exact absurd h (zF.o j _ (by omega) (XD hj))
theorem JK (base d m dp sp:Nat) (oa:Option Addr) (zA:Nat) (P L:Value) (wd now given births:Int) (ks:List Kd) (ps:List Pd) (ls:List Ld) (s:ByteArray) (w:World) (hd:Dr w base d m (.slice oa ks.length zA) P L wd now given births ks ps ls) (zG:(ks.map (·.sum)).Nodup) (zH:∀k∈ks,(k.sum.size:Int)=wd) (hr:Il ks) (hl:ks.length<=600)
 (zF:w.cell? (XL dp 0)=some (.pointer (some ⟨d,0,none⟩))) (zE:w.cell? (XL sp 0)=some (.string s)):
 Calls prog 252 #[.slice oa ks.length zA,.func (.func 253) #[] #[.pointer (some ⟨dp,0,none⟩),.pointer (some ⟨sp,0,none⟩)]] w fun e w'=>∃ok,e=.returned (.bool ok)/\(ok=true↔∃k∈ks,s∈k.refs)/\Xz w w':=by
 have HI:Hid _:=MD base d m dp sp oa zA P L wd now given births ks ps ls s w hd zG zH hr hl zF zE;clear hd;go_enter func252,ntmps252;go_wp2_with fail;refine Calls.mono HI.o ?_;rintro e w1 ⟨r,rfl,zC,zB⟩;have HR:Hid _:=zC;clear zC HI;by_cases h:0<=r
 ·have hd:decide ((0:Int)<=r)=true:=by simpa using h
  go_wp2;go_ret;exact⟨true,rfl,⟨(fun _=>HR.o.1 h),(fun _=>rfl)⟩,zB⟩
 ·have hd:decide ((0:Int)<=r)=false:=by simpa using h
  go_wp2;go_ret;exact⟨false,rfl,⟨(fun e=>by cases e),(fun e=>absurd (HR.o.2 e) (by omega))⟩,zB⟩
theorem QN (base d m:Nat) (O P L:Value) (wd now given births:Int) (ks:List Kd) (ps:List Pd) (ls:List Ld) (s:ByteArray) (w:World) (hd:Dr w base d m O P L wd now given births ks ps ls) (zE:(ks.map (·.sum)).Nodup) (zF:∀k∈ks,(k.sum.size:Int)=wd) (hr:Il ks) (hl:ks.length<=600):
 Calls prog 238 #[.pointer (some ⟨d,0,none⟩),.string s] w fun e w'=>∃ok,e=.returned (.bool ok)/\(ok=true↔∃k∈ks,s∈k.refs)/\Xz w w':=by
 have zI:∀(fn:Fn) (first cap:Array Value) (w:World),(Instr.makeFunc fn first cap).run prog w=.ok (.func fn first cap) w:=fun _ _ _ _=>rfl;obtain⟨oa,zG,rfl⟩:=Ay hd.ord;obtain⟨W,hW⟩:∃W,W=(w.alloc (.cells #[.pointer (some ⟨d,0,none⟩)] 82)).alloc (.cells #[.string s] 9):=⟨_,rfl⟩;have hB:=(AP hW).1;have cd:W.cell? (XL (w.heap.size) 0)=some (.pointer (some ⟨d,0,none⟩)):=by rw[hW];simp[go_sem]
 have cs:W.cell? (XL (w.heap.size+1) 0)=some (.string s):=by rw[hW];simp[go_sem]
 have zA:=hd.below hB;have HI:Hid _:=JK base d m w.heap.size (w.heap.size+1) oa zG P L wd now given births ks ps ls s W zA zE zF hr hl cd cs;obtain⟨c5,_⟩:=zA.box 5 _ rfl;have HW:Hid _:=hW;clear hW zA hd cs;go_enter func238,ntmps238;go_upto_region 1 with fail;rw[←HW.o];clear HW;go_wp2_with fail;refine Calls.mono HI.o ?_;rintro e w1 ⟨ok,rfl,zB,zC⟩;have HR:Hid _:=zB
 have zH:=hB.trans (zC.mono hB.size);clear zB HI;go_wp2;go_ret;exact⟨ok,rfl,HR.o,zH⟩
theorem IV (base d m:Nat) (O P L:Value) (wd now given births:Int) (ks:List Kd) (ps:List Pd) (ls:List Ld) (s:ByteArray) (w:World) (hd:Dr w base d m O P L wd now given births ks ps ls) (zE:(ks.map (·.sum)).Nodup) (zG:∀k∈ks,(k.sum.size:Int)=wd) (hr:Il ks) (hk:ks.length<=600) (hp:ps.length<=100) (hl:ls.length<=200):
 Calls prog 210 #[.pointer (some ⟨d,0,none⟩),.string s] w fun e w'=>∃ok,e=.returned (.bool ok)/\(ok=true↔((∃p∈ps,p.sum=s)∨∃l∈ls,l.sum=s)∨∃k∈ks,s∈k.refs)/\Xz w w':=by
 have HD:Hid _:=hd;clear hd;go_enter func210,ntmps210;go_wp2_with fail;refine(Pp base d m O P L wd now given births ks ps ls s w HD.o hp hl).mono ?_;rintro e w1 ⟨zF,rfl,h1,zA⟩;have H1:Hid _:=h1;clear h1;cases zF
 ·go_wp2_with fail
  refine(QN base d m O P L wd now given births ks ps ls s w1 (Dr.below HD.o zA) zE zG hr hk).mono ?_;rintro e w2 ⟨zC,rfl,h2,zB⟩;have H2:Hid _:=h2;clear h2;go_wp2;go_ret;exact⟨zC,rfl,⟨(fun e=> .inr (H2.o.1 e)),(fun e=>e.elim (fun e=>by have:=H1.o.2 e;simp at this) H2.o.2)⟩,zA.trans (zB.mono zA.size)⟩
 ·go_wp2
  go_ret;exact⟨true,rfl,⟨(fun _=> .inl (H1.o.1 (by trivial))),(fun _=>rfl)⟩,zA⟩
theorem DQ (base d m:Nat) (O P L:Value) (wd now given births:Int) (ks:List Kd) (ps:List Pd) (ls:List Ld) (s:ByteArray) (w:World) (hd:Dr w base d m O P L wd now given births ks ps ls) (zF:∀k∈ks,(k.sum.size:Int)=wd) (zE:Au ks s):
 Calls prog 197 #[.pointer (some ⟨d,0,none⟩),.string s] w fun e w'=>e=.returned (.tuple #[])/\Xz w w':=by
 obtain⟨n,f,hn,hM,hH⟩:=hd.map;obtain⟨ok,zA,zB⟩:=KW wd m n f ks w w.heap.size s w hM hH.holds zF;obtain rfl:=zA.2 zE;obtain⟨c0,c1⟩:=Aa.c2 hd.box 0 1;have HC:Hid _:=zB w (Below.refl _ _);clear zB zA hd hM hH;go_enter func197,ntmps197;go_wp2_with fail;refine Calls.mono HC.o ?_;rintro e w1 ⟨rfl,zC⟩;clear HC;go_wp2
 go_end0
 exact⟨rfl,zC⟩
end
structure Tn (V:List Nat) (w w':World):Prop where
 os:w'.os=w.os
 tape:w'.tape=w.tape
 output:w'.output=w.output
 size:w.heap.size<=w'.heap.size
 block:∀b,b<w.heap.size->b∉V->w'.heap[b]?=w.heap[b]?
theorem Tn.of {V:List Nat} {w w':World} (h:Xz w w'):Tn V w w':=⟨h.os,h.tape,h.output,h.size,fun b hb _=>h.block b hb⟩
theorem Tn.grown {V:List Nat} {w w':World} {g:Nat} (h:w.grownBy w' (some g)) (hg:g∈V):Tn V w w':=⟨h.os,h.tape,h.output,h.size,fun b hb hv=>h.block b hb (fun e=>hv (Option.some.inj e▸hg))⟩
theorem Tn.set {V:List Nat} (w:World) (g j:Nat) (v:Value) (hg:g∈V):Tn V w (w.setCell (XL g j) v):=Tn.grown (Av w g j v) hg
theorem Tn.trans {V:List Nat} {a b c:World} (h:Tn V a b) (k:Tn V b c):Tn V a c:=
 ⟨k.os.trans h.os,k.tape.trans h.tape,k.output.trans h.output,XI h.size k.size,fun q hq hv=>(k.block q (XH hq h.size) hv).trans (h.block q hq hv)⟩
theorem Tn.below {V:List Nat} {w w':World} (h:Tn V w w') {B:Nat} (hB:B<=w.heap.size) (hV:∀b∈V,B<=b):Below B w w':=⟨h.os,h.tape,h.output,h.size,fun b hb=>h.block b (by omega) (fun hv=>by have:=hV b hv;omega)⟩
theorem Tn.mono {V V':List Nat} {w w':World} (h:Tn V w w') (hV:∀b∈V,b∈V'):Tn V' w w':=⟨h.os,h.tape,h.output,h.size,fun b hb hv=>h.block b hb (fun e=>hv (hV b e))⟩
theorem Bb.same {w w':World} {K:TypeId} {b n:Nat} {f:Lit->Option Value} (h:Bb w K b n f) (hb:w'.heap[b]?=w.heap[b]?):Bb w' K b n f:=by
 obtain⟨D,⟨es,clock,h1,h2⟩,h3⟩:=h;exact⟨D,⟨es,clock,hb.trans h1,h2⟩,h3⟩
theorem Du.turn {w w':World} {base:Nat} {V:List Nat} {a:Option Addr} {ss:List ByteArray} (h:Du w base V a ss) (ht:Tn V w w'):Du w' base V a ss:=by
 rcases h with h|⟨b,off,ha,hb,hv,hx,hc⟩
 ·exact .inl h
 ·exact .inr ⟨b,off,ha,XH hb ht.size,hv,(by rw[ht.block b hb hv];exact hx),fun i s hs=>(World.cell?_of_block (a:=⟨b,off+i,none⟩) (ht.block b hb hv)).trans (hc i s hs)⟩
theorem JL {P:Program} {w:World} {ops:Array Oper} {o:Oper} {a:Act} {K:Act->World->Prop} {Q:Exit->Act->World->Prop} {E:Prop} (zA:o.guard=none) (s x:Operand) (t u:TypeId)
 (ho:o.op=.call {callee:=.builtin .delete,args:= #[s,x],argTypes:= #[t,u]}) {v xv:Value} {w':World} (hs:a.eval s=v) (hx:a.eval x=xv)
 (hr:(Builtin.delete_ #[t,u] o.type #[v,xv]).run P w=.ok (.tuple #[]) w') (h:K (a.put o.dst (.tuple #[])) w'):
 if Region.wanted o (yielded ops a.tmps)=true then Oper.wp P o a w K Q else E:=by
 have hw:Region.wanted o (yielded ops a.tmps)=true:=by simp[Region.wanted,zA]
 rw[if_pos hw];unfold Oper.wp execOp;simp only[ho,resolve,invoke,builtin,Sem.run_bind,Sem.run_pure,Result.andThen_ok,List.map_toArray,List.map_cons,List.map_nil,hs,hx,hr];exact h
def Ef (ks:List Kd) (s:ByteArray):List Kd:=ks.filter (fun k=> !decide (k.sum=s))
theorem ND {ks:List Kd} (zA:(ks.map (·.sum)).Nodup) {i:Nat} {k:Kd} (hk:ks[i]?=some k):Ef ks k.sum=ks.eraseIdx i:=by
 induction ks generalizing i with
 |nil=>simp at hk
 |cons x xs ih=>
  simp only[List.map_cons,List.nodup_cons,List.mem_map,not_exists,not_and] at zA;cases i with
  |zero=>
   simp at hk;subst hk;unfold Ef;simp only[List.filter_cons,decide_true,Bool.not_true,Bool.false_eq_true,if_false,List.eraseIdx_zero,List.tail_cons];exact List.filter_eq_self.2 (fun y hy=>by simpa using zA.1 y hy)
  |succ i=>
   have zB:xs[i]?=some k:=by simpa using hk
   have hm:=XG zB;have zC:¬x.sum=k.sum:=fun e=>zA.1 k hm e.symm;have:=ih zA.2 zB;unfold Ef at *
   simp[zC,this]
theorem QO {ss:List ByteArray} {s:ByteArray} {i:Nat} (h:EE ss s i) (hs:s∈ss) (zA:ss.Pairwise (fun a b=>less a b=true)):ss[i]?=some s:=by
 obtain⟨j,hj⟩:=List.getElem?_of_mem hs;have zC:=(XC hj).1;rcases Nat.lt_or_ge j i with h'|h'
 ·have:=h.lo j s h' hj
  rw[BX] at this;cases this
 ·rcases Nat.lt_or_ge i j with zB|zB
  ·have h1:=List.pairwise_iff_getElem.1 zA i j (by omega) zC zB
   have h2:=h.hi i _ (XB) (XD (by omega));obtain⟨_,e⟩:=XC hj;rw[e] at h1;rw[h1] at h2;cases h2
  ·obtain rfl:j=i:=by omega
   exact hj
structure EO (wd:Int) (ks:List Kd):Prop where
 nd:(ks.map (·.sum)).Nodup
 sorted:(ks.map (·.sum)).Pairwise (fun a b=>less a b=true)
 sz:∀k∈ks,(k.sum.size:Int)=wd
 refs:Il ks
 len:ks.length<=600
 w8:wd<=8
theorem BC.drop {w w':World} {base:Nat} {V:List Nat} {wd:Int} {ks:List Kd} {f:Lit->Option Value} (h:BC w base V wd ks f) (ht:Tn V w w') {s:ByteArray} (hs:(s.size:Int)=wd) (h8:wd<=8):BC w' base V wd (Ef ks s) (ers f (keyL s)):=by
 intro t zC;by_cases hts:t=s
 ·subst hts
  exact .inl ⟨by simp[ers],fun⟨u,hu,zA⟩=>by simp[Ef,zA] at hu⟩
 ·have zB:keyL t≠keyL s:=fun e=>hts (IF e (by omega) (by omega))
  have he:ers f (keyL s) (keyL t)=f (keyL t):=by simp[ers,zB]
  rw[he];rcases h t zC with⟨h1,h2⟩|⟨u,ra,rc,hu,zA,hf,hr⟩
  ·exact .inl ⟨h1,fun⟨u,hu,zA⟩=>h2 ⟨u,(List.mem_filter.1 hu).1,zA⟩⟩
  ·exact .inr ⟨u,ra,rc,List.mem_filter.2 ⟨hu,by simp[zA,hts]⟩,zA,hf,hr.turn ht⟩
theorem Dr.apart {w w':World} {base d m:Nat} {O P L:Value} {wd now given births:Int} {ks:List Kd} {ps:List Pd} {ls:List Ld} (h:Dr w base d m O P L wd now given births ks ps ls) {R:Nat} (ht:Tn [R] w w') (hR:base<=R) (hV:R∉vB d m O P L) (hs:∀zB fz,w.heap[R]?≠some (.cells zB 9 fz)):Dr w' base d m O P L wd now given births ks ps ls:=by
 obtain⟨n,f,h1,h2,h3⟩:=h.map;have zA:∀b,b<w.heap.size->b∈vB d m O P L->w'.heap[b]?=w.heap[b]?:=fun b hb hv=>ht.block b hb (fun e=>hV (by simp at e;exact e▸hv))
 refine⟨Aa.same h.box (zA d h.box.lt (by simp[vB])),⟨n,f,h1,Bb.same h2 (zA m h2.lt (by simp[vB])),?_⟩,Ah h.ord (fun g hg=>zA g (Ac h.ord hg).2 (by simp[vB,hg])),Ah h.pin (fun g hg=>zA g (Ac h.pin hg).2 (by simp[vB,hg])),Ah h.lea (fun g hg=>zA g (Ac h.lea hg).2 (by simp[vB,hg])),h.bd,h.bm,h.ap⟩;intro s zF;rcases h3 s zF with h'|⟨u,ra,rc,q1,q2,q3,q4⟩
 ·exact .inl h'
 ·refine .inr ⟨u,ra,rc,q1,q2,q3,?_⟩
  rcases q4 with q4|⟨b,off,ha,hb,hv,hx,hc⟩
  ·exact .inl q4
  ·have zE:b≠R:=by
    rcases hx with hx|⟨_,zB,hx⟩
    ·omega
    ·exact fun e=>hs zB _ (e▸hx)
   have zC:=ht.block b hb (by simpa using zE);exact .inr ⟨b,off,ha,XH hb ht.size,hv,(by rw[zC];exact hx),fun i s hs=>(World.cell?_of_block (a:=⟨b,off+i,none⟩) zC).trans (hc i s hs)⟩
theorem SL (base d m:Nat) (O P L:Value) (wd now given births:Int) (ks:List Kd) (ps:List Pd) (ls:List Ld) (s:ByteArray) (w:World) (hd:Dr w base d m O P L wd now given births ks ps ls) (zA:EO wd ks) (hp:ps.length<=100) (hl:ls.length<=200) (zX:Au ks s) (zJ:¬(((∃p∈ps,p.sum=s)∨∃l∈ls,l.sum=s)∨∃k∈ks,s∈k.refs)):
 Calls prog 174 #[.pointer (some ⟨d,0,none⟩),.string s] w fun e w'=>e=.returned (.tuple #[])/\∃O',Dr w' base d m O' P L wd now given births (Ef ks s) ps ls/\O'.ownBlock=O.ownBlock/\Tn (vB d m O P L) w w':=by
 obtain⟨k0,zN,zR⟩:=zX;have zX:Au ks s:=⟨k0,zN,zR⟩;have yP:=zR▸zA.sz k0 zN;have yQ:=List.length_pos_of_mem zN;obtain⟨g,cap,rfl,yV,yT⟩:=BR hd.ord (fun e=>by have:=Ay hd.ord;obtain⟨a,c,e'⟩:=this;rw[e'] at e;injection e with _ h2 _;omega);have HD:Hid _:=hd;clear hd;go_enter func174,ntmps174;go_wp2_with fail;refine(DQ base d m _ P L wd now given births ks ps ls s w HD.o zA.sz zX).mono ?_
 rintro e w1 ⟨rfl,zG⟩;have zW:Hid _:=Dr.below HD.o zG;go_wp2_with fail;refine(IV base d m _ P L wd now given births ks ps ls s w1 zW.o zA.nd zA.sz zA.refs zA.len hp hl).mono ?_;rintro e w2 ⟨ok,rfl,zI,zK⟩;obtain rfl:ok=false:=by
  cases ok with
  |false=>rfl
  |true=>exact absurd (zI.1 rfl) zJ
 have yF:Hid _:=Dr.below zW.o zK;clear zI zW;go_wp2_with fail;refine(IG s w2).mono ?_;rintro e w3 ⟨rfl,zO⟩;obtain⟨W4,zM⟩:∃W,W=w3.alloc (.cells #[.int .u8 (kB s 0),.int .u8 (kB s 1),.int .u8 (kB s 2),.int .u8 (kB s 3),.int .u8 (kB s 4),.int .u8 (kB s 5),.int .u8 (kB s 6),.int .u8 (kB s 7)] 139):=⟨_,rfl⟩;have yA:=(Aq zM).1;have k4:Aa W4 w3.heap.size (Aj s):=by rw[zM];exact Aa.new w3 (Aj s) 139
 have B4:=((zG.trans (zK.mono zG.size)).trans (zO.mono (XI zG.size zK.size))).trans (yA.mono (XI (XI zG.size zK.size) zO.size));have zB:Hid _:=Dr.below (Dr.below yF.o zO) yA;have yE:Hid _:=zM;clear zM yF;go_upto_region 4 with fail;rw[←yE.o];clear yE;obtain⟨n,f,hn,hM,hH⟩:=zB.o.map;obtain⟨w5,zV,yB,yG⟩:=(hM.keep (Below.refl W4.heap.size W4).drew hM.lt).del keyed underlying126 (Ee s) 0
 have yY:=zB.o.box.lt;have zE:=zB.o.ap;have yK:d≠m:=by
  intro e;unfold vB at zE;simp[e] at zE
 have zY:d≠g/\m≠g:=by
  unfold vB at zE;simp[Value.ownBlock] at zE;omega
 have yW:=(HD.o.map.choose_spec.choose_spec.2.1).lt;have yX:=XI (XI zG.size zK.size) zO.size;have zC:=CQ yG;have k5:=Aa.far' (v:=.int .u8 (kB s 0)) k4 zC (by omega);have x5:=Aa.far' zB.o.box zC (fun e=>yK e.symm);have P4:W4.drew.cell? (XL d 1)=some (.map (some m))/\_:=⟨(zB.o.box 1 _ rfl).1,Gf (w:=W4.drew) k4⟩;have P5:w5.cell? (XL d 1)=some (.map (some m))/\_:=⟨(x5 1 _ rfl).1,Gf k5⟩
 unfold Cc CF at zV
 go_region_held3 (fun X=>X.cell? (XL d 1)=some (.map (some m))/\(X.cell? (XL (w3.heap.size) 0)=some (.int .u8 (kB s 0))/\X.cell? (XL (w3.heap.size) 1)=some (.int .u8 (kB s 1))/\X.cell? (XL (w3.heap.size) 2)=some (.int .u8 (kB s 2))/\X.cell? (XL (w3.heap.size) 3)=some (.int .u8 (kB s 3))/\X.cell? (XL (w3.heap.size) 4)=some (.int .u8 (kB s 4))/\X.cell? (XL (w3.heap.size) 5)=some (.int .u8 (kB s 5))/\X.cell? (XL (w3.heap.size) 6)=some (.int .u8 (kB s 6))/\X.cell? (XL (w3.heap.size) 7)=some (.int .u8 (kB s 7))))
  (first|with_reducible exact P4|with_reducible exact P5)
  (first|(refine JL (by rfl) (.tmp 21) (.tmp 22) 126 139 (by rfl) (by rfl) (by rfl) zV ?_))
 have zS:=World.ownsRow.kept zB.o.ord zC (.inr (fun e=>zY.2 (Option.some.inj e).symm));have HP:=QM base d m g cap P L wd now given births ks s w5 x5 zS zA.len (by have:=zA.w8;omega) (fun x hx=>by have:=zA.sz x hx;omega) zA.sorted;obtain⟨q0,q1,q2,q3,q4,q5,q6,q7⟩:=Gf k5;have HQ:Hid _:=HP;unfold Cc CF at HQ;have yI:Hid _:=And.intro x5 zS;have H5:Hid _:=And.intro yB (And.intro zC hH)
 clear HP P4 P5 zV yB yG zC x5 zS k4 k5 hM;go_wp2_with fail;refine Calls.mono HQ.o ?_;rintro e w6 ⟨i,rfl,yN,zT⟩;have zP:=QO yN (List.mem_map.2 ⟨k0,zN,zR⟩) zA.sorted;have yU:=zA.len;have yD:i<ks.length:=by have:=(XC zP).1;simpa using this
 have x6:=Aa.below yI.o.1 zT;obtain⟨y5,f5⟩:=x6 5 _ rfl;have yL:w6.ownsRow base 139 8 (.slice (some ⟨g,0,none⟩) (ks.map (·.sum)).length cap) (ks.map (·.sum)).length (AM (ks.map (·.sum))):=by
  rw[List.length_map];exact Ad yI.o.2 zT
 have zF:=LF g cap i (ks.map (·.sum)) w6 base yL (by rw[List.length_map];exact zA.len) (by rw[List.length_map];exact yD);rw[List.length_map] at zF;have yM:Hid _:=zF;have H6:Hid _:=And.intro zP (And.intro x6 zT);clear yN zP x6 zF yL HQ q0 q1 q2 q3 q4 q5 q6 q7;go_wp2_with fail;refine Calls.mono yM.o ?_;rintro e w7 ⟨rfl,yC,zU⟩;have x7:=Aa.far' H6.o.2.1 zU (fun e=>zY.1 e.symm)
 obtain⟨y7,f7⟩:=x7 5 _ rfl;have H7:Hid _:=And.intro x7 (And.intro yC zU);clear x7 yC zU y5 f5 yM;go_wp2
 go_end0
 have T3:Tn [d,m,g] W4 (w7.setCell (XL d 5) (.slice (some ⟨g,0,none⟩) (ks.length -1) cap)):=
  (((Tn.grown H5.o.2.1 (by simp)).trans (Tn.of H6.o.2.2)).trans (Tn.grown H7.o.2.2 (by simp))).trans (Tn.set w7 d 5 _ (by simp))
 have zH:∀b∈[d,m,g],b∈vB d m (.slice (some ⟨g,0,none⟩) ks.length cap) P L:=by
  intro b hb;simp at hb;unfold vB;rcases hb with rfl|rfl|rfl<;>simp[Value.ownBlock]
 have yH:∀v:Value,(v=P∨v=L)->∀b,v.ownBlock=some b->b∉[d,m,g]:=by
  intro v hv b hb yJ;unfold vB at zE;rcases hv with rfl|rfl
  ·simp only[List.nodup_cons,List.mem_cons,List.mem_append,Option.mem_toList,hb] at zE
   simp[Value.ownBlock] at zE yJ
   grind
  ·simp only[List.nodup_cons,List.mem_cons,List.mem_append,Option.mem_toList,hb] at zE
   simp[Value.ownBlock] at zE yJ
   grind
 have yR:∃k,ks[i]?=some k/\k.sum=s:=by
  have:=H6.o.1;rw[List.getElem?_map] at this;cases hk:ks[i]? with
  |none=>rw[hk] at this;cases this
  |some k=>rw[hk] at this;exact⟨k,rfl,by simpa using this⟩
 obtain⟨ki,yO,zZ⟩:=yR;have yS:=zZ▸ND zA.nd yO;refine⟨rfl,.slice (some ⟨g,0,none⟩) (ks.length -1) cap,⟨Aa.set H7.o.1 5 _,⟨n,ers f (keyL s),hn,?_,?_⟩,?_,?_,?_,zB.o.bd,zB.o.bm,zE⟩,rfl,(Tn.of B4).trans (T3.mono zH)⟩
 ·refine Bb.same (Bb.same (H5.o.1.keep H6.o.2.2 H5.o.1.lt) (H7.o.2.2.block m (XH H5.o.1.lt H6.o.2.2.size) (fun e=>zY.2 (Option.some.inj e)))) ?_
  exact Below.heap_setCell _ _ _ _ (fun e=>yK e.symm)
 ·exact BC.drop H5.o.2.2 (T3.mono zH) yP zA.w8
 ·rw[yS]
  have h1:(ks.eraseIdx i).length=ks.length -1:=by rw[List.length_eraseIdx,if_pos yD]
  rw[h1];have h2:(ks.eraseIdx i).map (·.sum)=(ks.map (·.sum)).eraseIdx i:=by simp[List.eraseIdx_eq_take_drop_succ]
  rw[h2];exact Bh H7.o.2.1 (fun b hb=>by simp[Value.ownBlock] at hb;omega) 5 _
 ·exact Ah zB.o.pin (fun b hb=>T3.block b (Ac zB.o.pin hb).2 (yH P (.inl rfl) b hb))
 ·exact Ah zB.o.lea (fun b hb=>T3.block b (Ac zB.o.lea hb).2 (yH L (.inr rfl) b hb))
theorem Dr.lts {w:World} {base d m:Nat} {O P L:Value} {wd now given births:Int} {ks:List Kd} {ps:List Pd} {ls:List Ld} (hd:Dr w base d m O P L wd now given births ks ps ls):∀b∈vB d m O P L,b<w.heap.size:=by
 intro b hb;unfold vB at hb;simp only[List.mem_cons,List.mem_append,Option.mem_toList] at hb;rcases hb with rfl|rfl|hb|hb|hb
 ·exact hd.box.lt
 ·exact(hd.map.choose_spec.choose_spec.2.1).lt
 ·exact(Ac hd.ord hb).2
 ·exact(Ac hd.pin hb).2
 ·exact(Ac hd.lea hb).2
def BS (c:Int) (a b:ByteArray):Value:=.iface 187 (.agg #[XJ c,.string a,.string b])
theorem QQ (base d m:Nat) (O P L:Value) (wd now given births:Int) (ks:List Kd) (ps:List Pd) (ls:List Ld) (s:ByteArray) (w:World) (hd:Dr w base d m O P L wd now given births ks ps ls) (zB:EO wd ks) (hp:ps.length<=100) (hl:ls.length<=200) (zH:Au ks s) (zE:((∃p∈ps,p.sum=s)∨∃l∈ls,l.sum=s)∨∃k∈ks,s∈k.refs):
 Calls prog 174 #[.pointer (some ⟨d,0,none⟩),.string s] w fun e w'=>e=.panicked [{v:=BS 6 ⟨#[]⟩ ⟨#[]⟩,recovered:=false}]/\Xz w w':=by
 have HD:Hid _:=hd;clear hd;go_enter func174,ntmps174;go_wp2_with fail;refine(DQ base d m O P L wd now given births ks ps ls s w HD.o zB.sz zH).mono ?_;rintro e w1 ⟨rfl,zC⟩;have zF:Hid _:=Dr.below HD.o zC;go_wp2_with fail;refine(IV base d m O P L wd now given births ks ps ls s w1 zF.o zB.nd zB.sz zB.refs zB.len hp hl).mono ?_;rintro e w2 ⟨ok,rfl,zA,zG⟩;obtain rfl:=zA.2 zE;clear zA zF;go_wp2
 exact⟨rfl,rfl,zC.trans (zG.mono zC.size)⟩
def As:List Value:=[XK,XK,XK,XK,XK,XN,XN,XN,XM,XK,XM,XM]
theorem AS {w:World} {b:Nat} (h:Aa w b As):(w.cell? (XL b 0)=some XK/\w.frozen? ⟨b,0,none⟩=false)/\(w.cell? (XL b 1)=some XK/\w.frozen? ⟨b,1,none⟩=false)/\(w.cell? (XL b 2)=some XK/\w.frozen? ⟨b,2,none⟩=false)/\(w.cell? (XL b 3)=some XK/\w.frozen? ⟨b,3,none⟩=false)/\(w.cell? (XL b 4)=some XK/\w.frozen? ⟨b,4,none⟩=false)/\(w.cell? (XL b 5)=some XN/\w.frozen? ⟨b,5,none⟩=false)/\(w.cell? (XL b 6)=some XN/\w.frozen? ⟨b,6,none⟩=false)/\(w.cell? (XL b 7)=some XN/\w.frozen? ⟨b,7,none⟩=false)/\(w.cell? (XL b 8)=some XM/\w.frozen? ⟨b,8,none⟩=false)/\(w.cell? (XL b 9)=some XK/\w.frozen? ⟨b,9,none⟩=false)/\(w.cell? (XL b 10)=some XM/\w.frozen? ⟨b,10,none⟩=false)/\(w.cell? (XL b 11)=some XM/\w.frozen? ⟨b,11,none⟩=false):=
 ⟨h 0 _ rfl,h 1 _ rfl,h 2 _ rfl,h 3 _ rfl,h 4 _ rfl,h 5 _ rfl,h 6 _ rfl,h 7 _ rfl,h 8 _ rfl,h 9 _ rfl,h 10 _ rfl,h 11 _ rfl⟩
theorem Bc (w:World) (R:Nat) (a0 a1 a2 a3 a4 a5 a6 a7 a8 a9 zA zB:Value):Tn [R] w ((((((((((((w.setCell (XL R 0) a0).setCell (XL R 1) a1).setCell (XL R 2) a2).setCell (XL R 3) a3).setCell (XL R 4) a4).setCell (XL R 5) a5).setCell (XL R 6) a6).setCell (XL R 7) a7).setCell (XL R 8) a8).setCell (XL R 9) a9).setCell (XL R 10) zA).setCell (XL R 11) zB):=
 have h:∀(x:World) (j:Nat) (v:Value),Tn [R] x (x.setCell (XL R j) v):=fun x j v=>Tn.set x R j v (by simp)
 (((((((((((h w 0 a0).trans (h _ 1 a1)).trans (h _ 2 a2)).trans (h _ 3 a3)).trans (h _ 4 a4)).trans (h _ 5 a5)).trans (h _ 6 a6)).trans (h _ 7 a7)).trans (h _ 8 a8)).trans (h _ 9 a9)).trans (h _ 10 zA)).trans (h _ 11 zB)
theorem Tn.fresh {V:List Nat} {w w1 w':World} {R:Nat} (h1:Tn V w w1) (h2:Tn [R] w1 w') (hR:w.heap.size<=R):Tn V w w':=
 ⟨h2.os.trans h1.os,h2.tape.trans h1.tape,h2.output.trans h1.output,XI h1.size h2.size,fun b hb hv=>(h2.block b (XH hb h1.size) (by simp;omega)).trans (h1.block b hb hv)⟩
def Xl (s:ByteArray):Array Value:= #[XJ 7,.string s,XM,XK,XM,XN]
theorem Pq (p:Addr) (w:World):
 CallsD prog 138 #[.pointer (some p)] .returning w fun e u' w'=>e=.returned (.tuple #[])/\u'=.returning/\w'=w:=by
 have zA:∀w:World,(binOp BinOp.eql 20 .nilIface .nilIface).run prog w=.ok (.bool true) w:=fun _=>by kernel_rfl
 refine callsD_of_wpS func138 rfl fun c₀ cs hu=> ?_;apply wpS_seq;apply wpS_region;simp[wpOpsS,go_sem,recoverD,hu,ntmps138,Exit.thenS];refine wpS_of_wp ?_;change Code.wp prog _ _ {tmps:= #[Value.pointer (some p),undef,undef,undef,Value.nilIface,undef,undef,undef,undef,undef,undef,undef,undef,undef,undef,undef,undef],defers:=[]} w;go_wp2;cases c₀;simp_all [bodyPostS,results,results138]
theorem Ub {w:World} {b:Nat} (h:Aa w b As) (a0 a1 a2 a3 a4 a5 a6 a7 a8 a9 zA zB:Value):Aa ((((((((((((w.setCell (XL b 0) a0).setCell (XL b 1) a1).setCell (XL b 2) a2).setCell (XL b 3) a3).setCell (XL b 4) a4).setCell (XL b 5) a5).setCell (XL b 6) a6).setCell (XL b 7) a7).setCell (XL b 8) a8).setCell (XL b 9) a9).setCell (XL b 10) zA).setCell (XL b 11) zB) b [a0,a1,a2,a3,a4,a5,a6,a7,a8,a9,zA,zB]:=
 ((((((((((((h.set 0 a0).set 1 a1).set 2 a2).set 3 a3).set 4 a4).set 5 a5).set 6 a6).set 7 a7).set 8 a8).set 9 a9).set 10 zA).set 11 zB)
def BT (c:Int) (a b:ByteArray):List Value:=[XJ c,XK,XK,XK,XK,XN,XN,XN,XM,XK,.string a,.string b]
theorem NE (R:Nat) (c:Int) (a b:ByteArray) (w:World) (hz:Aa w R As):
 CallsD prog 138 #[.pointer (some ⟨R,0,none⟩)] (.panicking [{v:=BS c a b,recovered:=false}]) w fun e u' w'=>e=.returned (.tuple #[])/\u'=.panicking [{v:=BS c a b,recovered:=true}]/\Aa w' R (BT c a b)/\Tn [R] w w':=by
 have zA:∀w:World,(binOp BinOp.eql 20 (.iface 187 (.agg #[XJ c,.string a,.string b])) .nilIface).run prog w=.ok (.bool false) w:=fun _=>by first|rfl|kernel_rfl
 have zE:∀w:World,(Instr.typeAssert (.iface 187 (.agg #[XJ c,.string a,.string b])) 20 187 true).run prog w=.ok (.tuple #[.agg #[XJ c,.string a,.string b],.bool true]) w:=fun _=>by first|rfl|kernel_rfl
 obtain⟨⟨y0,q0⟩,⟨y1,q1⟩,⟨y2,q2⟩,⟨y3,q3⟩,⟨y4,q4⟩,⟨y5,q5⟩,⟨y6,q6⟩,⟨y7,q7⟩,⟨y8,q8⟩,⟨y9,q9⟩,⟨zC,zG⟩,zJ,zI⟩:=AS hz;have zH:=Aa.lt (v:=XK) hz;have zF:¬w.heap.size=R:=by omega
 have zB:¬R=w.heap.size:=by omega
 unfold BS;refine callsD_of_wpS func138 rfl fun c₀ cs hu=> ?_;apply wpS_seq;apply wpS_region;simp[wpOpsS,go_sem,recoverD,hu,ntmps138,Exit.thenS];refine wpS_of_wp ?_;change Code.wp prog _ _ {tmps:= #[Value.pointer (some ⟨R,0,none⟩),undef,undef,undef,.iface 187 (.agg #[XJ c,.string a,.string b]),undef,undef,undef,undef,undef,undef,undef,undef,undef,undef,undef,undef],defers:=[]} w;go_wp2
 simp[bodyPostS,results,results138];exact⟨Aa.below (v:=XJ c) (Ub hz _ _ _ _ _ _ _ _ _ _ _ _) (XA),(Bc w R _ _ _ _ _ _ _ _ _ _ _ _).trans (Tn.of (XA))⟩
theorem CI.low {W w:World} {B:Nat} {wd:Int} {ks:List Kd} {f:Lit->Option Value} (h:CI W B wd ks f) (hb:Below B W w):CI w B wd ks f:=by
 intro s hs;rcases h s hs with h|⟨u,ra,rc,h1,h2,h3,h4⟩
 ·exact .inl h
 ·exact .inr ⟨u,ra,rc,h1,h2,h3,Ae.below h4 hb⟩
def HU (w:World) (base m:Nat) (wd:Int) (ks:List Kd):Prop:=∃n f,n<=1000000/\Bb w 139 m n f/\CI w base wd ks f/\m<base+4
theorem DR (w:World) (R j:Nat) (v:Value):Tn [R] w (w.setCell (XL R j) v):=Tn.set w R j v (by simp)
theorem Cn {w w':World} {b:Option Nat} (hg:w.grownBy w' b):Tn b.toList w w':=⟨hg.os,hg.tape,hg.output,hg.size,fun k hk hv=>hg.block k hk (fun e=>hv (by simp[←e]))⟩
def HN (w:World) (m N:Nat):Prop:=∃n f,n<=N/\Bb w 139 m n f
theorem ME (wd now given births:Int) (a p l:Option Addr) (ac pc lc:Nat) (ks:List Kd) (ps:List Pd) (ls:List Ld) (w:World) (zG:Bt w w.heap.size a p l ks ps ls) (hk:ks.length<=600) (hp:ps.length<=100) (hl:ls.length<=200) (yT:∀k∈ks,(k.sum.size:Int)=wd) (h8:wd<=8):
 Calls prog 92 #[.agg #[XJ wd,XJ now,XJ given,XJ births,.slice a ks.length ac,.slice p ps.length pc,.slice l ls.length lc]] w fun e w'=>∃d m O P L,e=.returned (.pointer (some ⟨d,0,none⟩))/\Dr w' (w.heap.size+1) d m O P L wd now given births ks ps ls/\HU w' (w.heap.size+1) m wd ks/\(HN w' m 600/\m<=w.heap.size+3)/\Xz w w':=by
 have hx:=AT.new w wd now given births (.slice a ks.length ac) (.slice p ps.length pc) (.slice l ls.length lc) 28;obtain⟨W0,zK⟩:∃W,W=w.alloc (.cells #[XJ wd,XJ now,XJ given,XJ births,.slice a ks.length ac,.slice p ps.length pc,.slice l ls.length lc] 28):=⟨_,rfl⟩;have zB:=(Aq zK).1;have yC:=(Aq zK).2.1;rw[←zK] at hx;have zF:Hid _:=zG;have HX:Hid _:=hx;have yO:Hid _:=zK;have S0:=IU hx
 have yF:W0.drew.cell? (XL (w.heap.size) 0)=some (XJ wd)/\W0.drew.cell? (XL (w.heap.size) 1)=some (XJ now)/\W0.drew.cell? (XL (w.heap.size) 2)=some (XJ given)/\W0.drew.cell? (XL (w.heap.size) 3)=some (XJ births)/\W0.drew.cell? (XL (w.heap.size) 4)=some (.slice a ks.length ac)/\W0.drew.cell? (XL (w.heap.size) 5)=some (.slice p ps.length pc)/\W0.drew.cell? (XL (w.heap.size) 6)=some (.slice l ls.length lc):=S0
 have K0:Bx W0.drew W0.drew.heap.size a ks:=Bx.mono (Bx.below zG.k zB.drew) zB.size;have yP:ks.length<=1048576:=by omega
 have xC:ps.length<=1048576:=by omega
 have yS:ls.length<=1048576:=by omega
 clear zG hx zK;go_enter func92,ntmps92;go_upto_region 1 with fail;rw[←yO.o];clear yO
 go_region_held3 (fun w'=>w'.cell? (XL (w.heap.size) 0)=some (XJ wd)/\w'.cell? (XL (w.heap.size) 1)=some (XJ now)/\w'.cell? (XL (w.heap.size) 2)=some (XJ given)/\w'.cell? (XL (w.heap.size) 3)=some (XJ births)/\w'.cell? (XL (w.heap.size) 4)=some (.slice a ks.length ac)/\w'.cell? (XL (w.heap.size) 5)=some (.slice p ps.length pc)/\w'.cell? (XL (w.heap.size) 6)=some (.slice l ls.length lc))
  (first|exact S3|exact S2|exact S1|exact yF|exact IU (AT.below X3.o (XA)))
  (first
  |(go_at_call 134;refine(IT wd now given births a ac (.slice p ps.length pc) (.slice l ls.length lc) ks W0.drew K0 yP yT h8).mono ?_;rintro e w1 ⟨m,f,rfl,hm,hM,hH,zP⟩;have B1:Below W0.heap.size W0 w1:=(Below.refl W0.heap.size W0).drew.trans zP;have S1:=IU (AT.below HX.o B1))
  |(go_at_call 96;refine(Gd p pc ps w1 (AQ.mono (AQ.below zF.o.p (zB.trans (B1.mono zB.size))) (zB.trans (B1.mono zB.size)).size) xC).mono ?_;rintro e w2 ⟨p2,zC,rfl,yA,zN⟩;have B2:Below W0.heap.size W0 w2:=B1.trans (zN.mono B1.size);have S2:=IU (AT.below HX.o B2))
  |(go_at_call 97;refine(Fa l lc ls w2 (AR.mono (AR.below zF.o.l (zB.trans (B2.mono zB.size))) (zB.trans (B2.mono zB.size)).size) yS).mono ?_;rintro e w3 ⟨l3,zE,rfl,zO,zI⟩;have B3:Below W0.heap.size W0 w3:=B2.trans (zI.mono B2.size);have X3:Hid _:=AT.below HX.o B3;have S3:=IU X3.o))
 obtain⟨W4,zJ⟩:∃W,W=w3.alloc (.cells #[XJ wd,.map (some m),XJ now,XJ given,XJ births,XN,.slice p2 ps.length zC,.slice l3 ls.length zE] 131):=⟨_,rfl⟩;have xJ:=(Aq zJ).2.1;have zH:=(Aq zJ).1;have Z4:=(Aq zJ).2.2;have yW:w.heap.size+1<=w1.heap.size:=by have:=B1.size;omega
 have zS:=zN.size;have yQ:=zI.size;have xB:m<w1.heap.size:=hM.lt;have B4:Below w.heap.size w W4:=(zB.trans (B3.mono zB.size)).trans (zH.mono (by omega));have yG:Hid (Below W0.drew.heap.size W0.drew W4):=((zP.trans (zN.mono (by simp;omega))).trans (zI.mono (by simp;omega))).trans (zH.mono (by simp;omega));have yB:Hid _:=AT.below X3.o zH
 have zT:Hid (Bb W4 139 m ks.length f):=hM.keep (B:=w1.heap.size) ((zN.trans (zI.mono zS)).trans (zH.mono (by omega))) xB;have yX:Hid (W4.ownsRow w1.heap.size 134 2 (.slice p2 ps.length zC) ps.length (Ab pC ps)):=Ad (Ad yA zI) zH;have yY:Hid (W4.ownsRow w2.heap.size 137 3 (.slice l3 ls.length zE) ls.length (Ab lC ls)):=Ad zO zH
 have zV:Hid (∀g,(Value.slice p2 ps.length zC).ownBlock=some g->w1.heap.size<=g/\g<w2.heap.size):=fun g hg=>Ac yA hg;have zW:Hid (∀g,(Value.slice l3 ls.length zE).ownBlock=some g->w2.heap.size<=g/\g<w3.heap.size):=fun g hg=>Ac zO hg;have HH:Hid _:=hH;have yI:Hid _:=Z4;have yZ:w.heap.size+1<=m/\m<=w.heap.size+3:=by have:=hm;simp at this;omega
 rw[←zJ];clear zJ S0 yF S1 S2 S3 X3 HX B1 B2 B3 zP zN zI hM yA zO hH Z4 K0 hm;obtain⟨x0,x1,x2,x3,x4,x5,x6,x7⟩:=yB.o;go_wp2
 go_loopw [25] (fun i wr=>∃(k:Nat) (O:Value),k<=ks.length/\i=XJ k/\Hid (Aa wr w3.heap.size [XJ wd,.map (some m),XJ now,XJ given,XJ births,O,.slice p2 ps.length zC,.slice l3 ls.length zE])/\Hid (wr.ownsRow (w3.heap.size+1) 139 8 O ((ks.take k).map (·.sum)).length (AM ((ks.take k).map (·.sum))))/\Below w3.heap.size W4 wr) (fun i _=>ks.length -(intOf i).toNat)
 case atStart=>exact⟨0,_,Nat.zero_le _,rfl,yI,⟨rfl,.inl ⟨rfl,rfl⟩⟩,Below.refl _ _⟩
 case round=>
  clear x0 x1 x2 x3 x4 x5 x6 x7 yI;obtain⟨k,O,xF,rfl,HZ,HO,zA⟩:=hrel;obtain⟨x0,x1,x2,x3,x4,x5,x6,x7⟩:=AT.keep yB.o zA (by omega);have xD:w3.heap.size+1<=wr.heap.size:=by have:=zA.size;omega
  by_cases hlt:k<ks.length
  ·obtain⟨b,off,ha,hb,hc⟩:=(Bx.below zF.o.k (B4.trans (zA.mono (by omega)))).at hlt
   subst ha;have HG:Hid (ks[k]?=some ks[k]):=XD hlt;obtain⟨c0,c1,c2,ra,rc,c3,_⟩:=hc k _ HG.o;have xH:b<wr.heap.size:=by omega
   have HN:Hid ((ks.take (k+1)).map (·.sum)=(ks.take k).map (·.sum)++[ks[k].sum]):=by
    show _=_;rw[XE hlt,List.map_append];rfl
   have xE:((ks.take k).map (·.sum)).length<=600:=by simp;omega
   clear hc;generalize ks[k]=x at *
   generalize (ks.take k).map (·.sum)=Os at *
   obtain⟨W5,zM⟩:∃W,W=wr.alloc (.cells #[.string x.sum,XJ x.born,.string x.text,.slice ra x.refs.length rc] 114):=⟨_,rfl⟩;have xI:=(Aq zM).2.1;have b5:=(Aq zM).1;have Z5:=(Aq zM).2.2;have HOr:Hid _:=HO.o;have yN:Hid _:=Ad HO.o b5;have zZ:Hid _:=Aa.below HZ.o b5;have yK:Hid (Below w3.heap.size W4 W5):=zA.trans (b5.mono (by omega))
   have P5:W5.drew.cell? (XL (w3.heap.size) 5)=some O/\W5.drew.cell? (XL (wr.heap.size) 0)=some (.string x.sum):=⟨(zZ.o 5 _ rfl).1,(Z5 0 _ rfl).1⟩;have D5:Below W5.heap.size W5 W5.drew:=(Below.refl _ _).drew;have yM:Hid _:=zM;clear zM Z5 HO HZ;go_upto_region 5 with fail;rw[←yM.o];clear yM x0 x1 x2 x3 x4 x5 x6 x7 c0 c1 c2 c3;obtain⟨zR,zU⟩:=P5
   have zY:∀g,O.ownBlock=some g->w3.heap.size+1<=g/\g<wr.heap.size:=fun g hg=>Ac HOr.o hg;have xG:wr.heap.size≠w3.heap.size:=by omega
   go_region_law (first
    |(go_simp;go_at_call 135;refine(IG x.sum W5.drew).mono ?_;rintro e w6 ⟨rfl,yJ⟩;have b6:Below W5.heap.size W5 w6:=D5.trans yJ;have yR:w6.cell? (XL (w3.heap.size) 5)=some O:=(b6.cell (p:=⟨w3.heap.size,5,none⟩) (by simp;omega)).trans zR;have yH:w6.cell? (XL (wr.heap.size) 0)=some (.string x.sum):=(b6.cell (p:=⟨wr.heap.size,0,none⟩) (by simp;omega)).trans zU;have b7:Below W5.heap.size W5 (w6.alloc (Ey x.sum)):=b6.alloc b6.size _;have yL:(w6.alloc (Ey x.sum)).cell? (XL (w3.heap.size) 5)=some O:=(b7.cell (p:=⟨w3.heap.size,5,none⟩) (by simp;omega)).trans zR;have yD:(w6.alloc (Ey x.sum)).cell? (XL (wr.heap.size) 0)=some (.string x.sum):=(b7.cell (p:=⟨wr.heap.size,0,none⟩) (by simp;omega)).trans zU;have z6:=b6.size;obtain⟨g8,c8,w8,hr8,ho8,hg8,ha8⟩:=Ua w6 (w3.heap.size+1) O Os (Ad yN.o b6) x.sum (by omega) (by omega) 129;have Z6:=Aa.below zZ.o b6;unfold Ey at hr8 yL yD;go_wp2_with fail)
    |(refine BU (by rfl) (.tmp 33) (.tmp 37) 129 129 (by rfl) (by rfl) (by rfl) hr8 ?_;have xA:w8.cell? (XL (wr.heap.size) 0)=some (.string x.sum):=hg8.cell yH (fun e=>by have:=(zY _ e.symm).2;simp at this);have Z8:Aa w8 w3.heap.size _:=(Aa.same Z6 (hg8.block w3.heap.size (by omega) (fun e=>by have:=(zY _ e.symm).1;omega)));have yV:=(Z8 5 _ rfl).1;have F8:=(Z8 5 _ rfl).2))
   all_goals
    have yE:Below w3.heap.size W4 w8:=(yK.o.trans (b6.mono (by omega))).grown hg8 (by omega) (fun g hg=>by have:=(zY g hg).1;omega);have zX:Hid _:=And.intro Z8 (And.intro yE ho8);clear Z8 yE ho8 hg8 hr8 Z6 b6 b7 yJ yN zZ yK zR zU yR yH yL yD yV xA F8 ha8 D5 b5;go_wp2;refine⟨⟨k+1,.slice (some ⟨g8,0,none⟩) (Os.length+1) c8,by omega,by go_num,?_,?_,?_⟩,by simp[intOf];omega⟩
    ·exact Aa.set zX.o.1 5 _
    ·rw[HN.o]
     exact ownsRow_setCell_below zX.o.2.2 (by simp<;>omega) _
    ·exact zX.o.2.1.setCell (by simp) _
  ·obtain rfl:k=ks.length:=by omega
   rw[XF (XB)] at HO;go_wp2;have yU:(vB w3.heap.size m O (.slice p2 ps.length zC) (.slice l3 ls.length zE)).Nodup:=by
    have hO:∀g,O.ownBlock=some g->w3.heap.size+1<=g:=fun g hg=>(Ac HO.o hg).1;have hP:∀g,(Value.slice p2 ps.length zC).ownBlock=some g->w1.heap.size<=g/\g<w2.heap.size:=zV.o;have hL:∀g,(Value.slice l3 ls.length zE).ownBlock=some g->w2.heap.size<=g/\g<w3.heap.size:=zW.o;unfold vB;generalize (Value.slice p2 ps.length zC).ownBlock=bp at *
    generalize (Value.slice l3 ls.length zE).ownBlock=bl at *
    generalize O.ownBlock=bo at *
    cases bo<;>cases bp<;>cases bl<;>simp_all<;>omega
   have hV:∀q∈vB w3.heap.size m O (.slice p2 ps.length zC) (.slice l3 ls.length zE),w.heap.size+1<=q:=by
    intro q hq;unfold vB at hq;simp only[List.mem_cons,List.mem_append,Option.mem_toList] at hq;rcases hq with rfl|rfl|hq|hq|hq
    ·omega
    ·omega
    ·have:=(Ac HO.o hq).1;omega
    ·have:=(zV.o _ hq).1;omega
    ·have:=(zW.o _ hq).1;omega
   go_ret;refine⟨_,rfl,m,⟨O,_,_,⟨HZ.o,⟨ks.length,f,by omega,zT.o.keep zA (by omega),?_⟩,?_,?_,?_,by omega,by omega,yU⟩⟩,⟨ks.length,f,by omega,zT.o.keep zA (by omega),?hu,by omega⟩,⟨⟨ks.length,f,hk,zT.o.keep zA (by omega)⟩,yZ.2⟩,B4.trans (zA.mono (by omega))⟩
   ·have hq:W0.drew.heap.size=w.heap.size+1:=yC
    rw[←hq];exact BC.of HH.o (yG.o.trans (zA.mono (by simp;omega))) (fun q hq=>by have:=hV q hq;simp;omega) ⟨m,rfl,by rw[hq];omega⟩
   ·have:=HO.o
    rw[List.length_map] at this;exact this.mono (by omega)
   ·refine World.ownsRow.mono ?_ (show w.heap.size+1<=w1.heap.size by omega)
    exact Ij yX.o zA (fun g hg=>by have:=(zV.o g hg).2;omega)
   ·refine World.ownsRow.mono ?_ (show w.heap.size+1<=w2.heap.size by omega)
    exact Ij yY.o zA (fun g hg=>by have:=(zW.o g hg).2;omega)
   case hu=>
    have hq:W0.drew.heap.size=w.heap.size+1:=yC;rw[←hq];exact CI.low HH.o (yG.o.trans (zA.mono (by simp;omega)))
end Go.Proofs.YtpekbmegopfhfaaGreatDoor
