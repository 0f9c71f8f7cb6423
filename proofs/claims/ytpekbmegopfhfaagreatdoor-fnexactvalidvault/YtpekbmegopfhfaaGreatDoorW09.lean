import Derived.Test.YtpekbmegopfhfaaGreatDoorW08
import Derived.WalkLawsBesides
import Derived.Defers
import Derived.Recover
namespace Go.Proofs.YtpekbmegopfhfaaGreatDoor
open Go.ChangeShapes Go.WideShapes Go.ChangeAt Go.RowKit
structure Tn (V:List Nat) (w w':World):Prop where
 os:w'.os=w.os
 tape:w'.tape=w.tape
 output:w'.output=w.output
 size:w.heap.size<=w'.heap.size
 block:∀b,b<w.heap.size->b∉V->w'.heap[b]?=w.heap[b]?
theorem Tn.of {V:List Nat} {w w':World} (h:Below w.heap.size w w'):Tn V w w':=⟨h.os,h.tape,h.output,h.size,fun b hb _=>h.block b hb⟩
theorem Tn.grown {V:List Nat} {w w':World} {g:Nat} (h:w.grownBy w' (some g)) (hg:g∈V):Tn V w w':=⟨h.os,h.tape,h.output,h.size,fun b hb hv=>h.block b hb (fun e=>hv (Option.some.inj e▸hg))⟩
theorem Tn.set {V:List Nat} (w:World) (g j:Nat) (v:Value) (hg:g∈V):Tn V w (w.setCell ⟨g,j,none⟩ v):=Tn.grown (rd_grown w g j v) hg
theorem Tn.trans {V:List Nat} {a b c:World} (h:Tn V a b) (k:Tn V b c):Tn V a c:=
 ⟨k.os.trans h.os,k.tape.trans h.tape,k.output.trans h.output,Nat.le_trans h.size k.size,fun q hq hv=>(k.block q (Nat.lt_of_lt_of_le hq h.size) hv).trans (h.block q hq hv)⟩
theorem Tn.below {V:List Nat} {w w':World} (h:Tn V w w') {B:Nat} (hB:B<=w.heap.size) (hV:∀b∈V,B<=b):Below B w w':=⟨h.os,h.tape,h.output,h.size,fun b hb=>h.block b (by omega) (fun hv=>by have:=hV b hv;omega)⟩
theorem Tn.mono {V V':List Nat} {w w':World} (h:Tn V w w') (hV:∀b∈V,b∈V'):Tn V' w w':=⟨h.os,h.tape,h.output,h.size,fun b hb hv=>h.block b hb (fun e=>hv (hV b e))⟩
theorem KMap.same {w w':World} {K:TypeId} {b n:Nat} {f:Lit->Option Value} (h:KMap w K b n f) (hb:w'.heap[b]?=w.heap[b]?):KMap w' K b n f:=by
 obtain ⟨D,⟨es,clock,h1,h2⟩,h3⟩:=h
 exact ⟨D,⟨es,clock,hb.trans h1,h2⟩,h3⟩
theorem RefV.turn {w w':World} {base:Nat} {V:List Nat} {a:Option Addr} {ss:List ByteArray} (h:RefV w base V a ss) (ht:Tn V w w'):RefV w' base V a ss:=by
 rcases h with h|⟨b,off,ha,hb,hv,hx,hc⟩
 ·exact .inl h
 ·exact .inr ⟨b,off,ha,Nat.lt_of_lt_of_le hb ht.size,hv,(by rw [ht.block b hb hv];exact hx),fun i s hs=>(World.cell?_of_block (a:=⟨b,off+i,none⟩) (ht.block b hb hv)).trans (hc i s hs)⟩
theorem step_delete_run {P:Program} {w:World} {ops:Array Oper} {o:Oper} {a:Act} {K:Act->World->Prop} {Q:Exit->Act->World->Prop} {E:Prop} (hgd:o.guard=none) (s x:Operand) (t u:TypeId)
 (ho:o.op=.call {callee:=.builtin .delete,args:= #[s,x],argTypes:= #[t,u]}) {v xv:Value} {w':World} (hs:a.eval s=v) (hx:a.eval x=xv)
 (hr:(Builtin.delete_ #[t,u] o.type #[v,xv]).run P w=.ok (.tuple #[]) w') (h:K (a.put o.dst (.tuple #[])) w'):
 if Region.wanted o (yielded ops a.tmps)=true then Oper.wp P o a w K Q else E:=by
 have hw:Region.wanted o (yielded ops a.tmps)=true:=by simp [Region.wanted,hgd]
 rw [if_pos hw]
 unfold Oper.wp execOp
 simp only [ho,resolve,invoke,builtin,Sem.run_bind,Sem.run_pure,Result.andThen_ok,List.map_toArray,List.map_cons,List.map_nil,hs,hx,hr]
 exact h
def dropK (ks:List Kd) (s:ByteArray):List Kd:=ks.filter (fun k=> !decide (k.sum=s))
theorem dropK_erase {ks:List Kd} (hnd:(ks.map (·.sum)).Nodup) {i:Nat} {k:Kd} (hk:ks[i]?=some k):dropK ks k.sum=ks.eraseIdx i:=by
 induction ks generalizing i with
 |nil=>simp at hk
 |cons x xs ih=>
  simp only [List.map_cons,List.nodup_cons,List.mem_map,not_exists,not_and] at hnd
  cases i with
  |zero=>
   simp at hk
   subst hk
   unfold dropK
   simp only [List.filter_cons,decide_true,Bool.not_true,Bool.false_eq_true,if_false,List.eraseIdx_zero,List.tail_cons]
   exact List.filter_eq_self.2 (fun y hy=>by simpa using hnd.1 y hy)
  |succ i=>
   have hk':xs[i]?=some k:=by simpa using hk
   have hm:=List.mem_of_getElem? hk'
   have hne:¬x.sum=k.sum:=fun e=>hnd.1 k hm e.symm
   have:=ih hnd.2 hk'
   unfold dropK at *
   simp [hne,this]
theorem place_hit {ss:List ByteArray} {s:ByteArray} {i:Nat} (h:PlaceAt ss s i) (hs:s∈ss) (hsort:ss.Pairwise (fun a b=>less a b=true)):ss[i]?=some s:=by
 obtain ⟨j,hj⟩:=List.getElem?_of_mem hs
 have hjl:=(List.getElem?_eq_some_iff.1 hj).1
 rcases Nat.lt_or_ge j i with h'|h'
 ·have:=h.lo j s h' hj
  rw [less_irrefl] at this
  cases this
 ·rcases Nat.lt_or_ge i j with h''|h''
  ·have h1:=List.pairwise_iff_getElem.1 hsort i j (by omega) hjl h''
   have h2:=h.hi i _ (Nat.le_refl _) (List.getElem?_eq_getElem (by omega))
   obtain ⟨_,e⟩:=List.getElem?_eq_some_iff.1 hj
   rw [e] at h1
   rw [h1] at h2
   cases h2
  ·obtain rfl:j=i:=by omega
   exact hj
structure KsOk (wd:Int) (ks:List Kd):Prop where
 nd:(ks.map (·.sum)).Nodup
 sorted:(ks.map (·.sum)).Pairwise (fun a b=>less a b=true)
 sz:∀k∈ks,(k.sum.size:Int)=wd
 refs:RefsOk ks
 len:ks.length<=600
 w8:wd<=8
theorem HoldsV.drop {w w':World} {base:Nat} {V:List Nat} {wd:Int} {ks:List Kd} {f:Lit->Option Value} (h:HoldsV w base V wd ks f) (ht:Tn V w w') {s:ByteArray} (hs:(s.size:Int)=wd) (h8:wd<=8):HoldsV w' base V wd (dropK ks s) (ers f (keyL s)):=by
 intro t htz
 by_cases hts:t=s
 ·subst hts
  exact .inl ⟨by simp [ers],fun ⟨u,hu,hus⟩=>by simp [dropK,hus] at hu⟩
 ·have hne:keyL t≠keyL s:=fun e=>hts (key_inj e (by omega) (by omega))
  have he:ers f (keyL s) (keyL t)=f (keyL t):=by simp [ers,hne]
  rw [he]
  rcases h t htz with ⟨h1,h2⟩|⟨u,ra,rc,hu,hus,hf,hr⟩
  ·exact .inl ⟨h1,fun ⟨u,hu,hus⟩=>h2 ⟨u,(List.mem_filter.1 hu).1,hus⟩⟩
  ·exact .inr ⟨u,ra,rc,List.mem_filter.2 ⟨hu,by simp [hus,hts]⟩,hus,hf,hr.turn ht⟩
theorem Dr.apart {w w':World} {base d m:Nat} {O P L:Value} {wd now given births:Int} {ks:List Kd} {ps:List Pd} {ls:List Ld} (h:Dr w base d m O P L wd now given births ks ps ls) {R:Nat} (ht:Tn [R] w w') (hR:base<=R) (hV:R∉vB d m O P L) (hs:∀cur fz,w.heap[R]?≠some (.cells cur 9 fz)):Dr w' base d m O P L wd now given births ks ps ls:=by
 obtain ⟨n,f,h1,h2,h3⟩:=h.map
 have hst:∀b,b<w.heap.size->b∈vB d m O P L->w'.heap[b]?=w.heap[b]?:=fun b hb hv=>ht.block b hb (fun e=>hV (by simp at e;exact e▸hv))
 refine ⟨CellsAt.same h.box (hst d h.box.lt (by simp [vB])),⟨n,f,h1,KMap.same h2 (hst m h2.lt (by simp [vB])),?_⟩,own_same h.ord (fun g hg=>hst g (own_lt h.ord hg).2 (by simp [vB,hg])),own_same h.pin (fun g hg=>hst g (own_lt h.pin hg).2 (by simp [vB,hg])),own_same h.lea (fun g hg=>hst g (own_lt h.lea hg).2 (by simp [vB,hg])),h.bd,h.bm,h.ap⟩
 intro s hsz
 rcases h3 s hsz with h'|⟨u,ra,rc,q1,q2,q3,q4⟩
 ·exact .inl h'
 ·refine .inr ⟨u,ra,rc,q1,q2,q3,?_⟩
  rcases q4 with q4|⟨b,off,ha,hb,hv,hx,hc⟩
  ·exact .inl q4
  ·have hne:b≠R:=by
    rcases hx with hx|⟨cur,fz,hx⟩
    ·omega
    ·exact fun e=>hs cur fz (e▸hx)
   have hbb:w'.heap[b]?=w.heap[b]?:=ht.block b hb (by simpa using hne)
   exact .inr ⟨b,off,ha,Nat.lt_of_lt_of_le hb ht.size,hv,(by rw [hbb];exact hx),fun i s hs=>(World.cell?_of_block (a:=⟨b,off+i,none⟩) hbb).trans (hc i s hs)⟩
set_option maxRecDepth 20000 in
set_option maxHeartbeats 4000000 in
theorem drop_yes (base d m:Nat) (O P L:Value) (wd now given births:Int) (ks:List Kd) (ps:List Pd) (ls:List Ld) (s:ByteArray) (w:World) (hd:Dr w base d m O P L wd now given births ks ps ls) (hok:KsOk wd ks) (hp:ps.length<=100) (hl:ls.length<=200) (hth:There ks s) (hfree:¬(((∃p∈ps,p.sum=s)∨∃l∈ls,l.sum=s)∨∃k∈ks,s∈k.refs)):
 Calls Tryz.prog 174 #[.pointer (some ⟨d,0,none⟩),.string s] w fun e w'=>e=.returned (.tuple #[])/\∃O',Dr w' base d m O' P L wd now given births (dropK ks s) ps ls/\O'.ownBlock=O.ownBlock/\Tn (vB d m O P L) w w':=by
 obtain ⟨k0,hk0,hks⟩:=hth
 have hth:There ks s:=⟨k0,hk0,hks⟩
 have hsw:(s.size:Int)=wd:=hks▸hok.sz k0 hk0
 have hlen:0<ks.length:=List.length_pos_of_mem hk0
 obtain ⟨g,cap,rfl,hgb,hgl⟩:=own_form hd.ord (fun e=>by have:=own_val hd.ord;obtain ⟨a,c,e'⟩:=this;rw [e'] at e;injection e with _ h2 _;omega)
 have HD:Hid _:=hd
 clear hd
 go_enter Tryz.func174,Tryz.ntmps174
 go_wp2_with fail
 refine (need_yes base d m _ P L wd now given births ks ps ls s w HD.out hok.sz hth).mono ?_
 rintro e w1 ⟨rfl,hb1⟩
 have HD1:Hid _:=Dr.below HD.out hb1
 go_wp2_with fail
 refine (isInUse_any base d m _ P L wd now given births ks ps ls s w1 HD1.out hok.nd hok.sz hok.refs hok.len hp hl).mono ?_
 rintro e w2 ⟨ok,rfl,hok2,hb2⟩
 obtain rfl:ok=false:=by
  cases ok with
  |false=>rfl
  |true=>exact absurd (hok2.1 rfl) hfree
 have HD2:Hid _:=Dr.below HD1.out hb2
 clear hok2 HD1
 go_wp2_with fail
 refine (key_out s w2).mono ?_
 rintro e w3 ⟨rfl,hb3⟩
 obtain ⟨W4,hW4⟩:∃W,W=w3.alloc (.cells #[.int .u8 (kB s 0),.int .u8 (kB s 1),.int .u8 (kB s 2),.int .u8 (kB s 3),.int .u8 (kB s 4),.int .u8 (kB s 5),.int .u8 (kB s 6),.int .u8 (kB s 7)] 139):=⟨_,rfl⟩
 have b34:Below w3.heap.size w3 W4:=by rw [hW4];exact (Below.refl _ _).alloc (Nat.le_refl _) _
 have k4:CellsAt W4 w3.heap.size (kCells s):=by rw [hW4];exact CellsAt.new w3 (kCells s) 139
 have B4:Below w.heap.size w W4:=((hb1.trans (hb2.mono hb1.size)).trans (hb3.mono (Nat.le_trans hb1.size hb2.size))).trans (b34.mono (Nat.le_trans (Nat.le_trans hb1.size hb2.size) hb3.size))
 have HD4:Hid _:=Dr.below (Dr.below HD2.out hb3) b34
 have HW4:Hid _:=hW4
 clear hW4 HD2
 go_upto_region 4 with fail
 rw [←HW4.out]
 clear HW4
 obtain ⟨n,f,hn,hM,hH⟩:=HD4.out.map
 obtain ⟨w5,hr5,hM5,hg5⟩:=(hM.keep (Below.refl W4.heap.size W4).drew hM.lt).del keyed Tryz.underlying126 (key_lit s) 0
 have hdl:=HD4.out.box.lt
 have hap:=HD4.out.ap
 have hdm:d≠m:=by
  intro e
  unfold vB at hap
  simp [e] at hap
 have hdg:d≠g/\m≠g:=by
  unfold vB at hap
  simp [Value.ownBlock] at hap
  omega
 have hml:m<w.heap.size:=(HD.out.map.choose_spec.choose_spec.2.1).lt
 have hz4:w.heap.size<=w3.heap.size:=Nat.le_trans (Nat.le_trans hb1.size hb2.size) hb3.size
 have hg5':W4.grownBy w5 (some m):=grown_undrew hg5
 have k5:CellsAt w5 w3.heap.size (kCells s):=CellsAt.far' (v:=.int .u8 (kB s 0)) k4 hg5' (by omega)
 have x5:=CellsAt.far' HD4.out.box hg5' (fun e=>hdm e.symm)
 have P4:W4.drew.cell? ⟨d,1,none⟩=some (.map (some m))/\_:=⟨(HD4.out.box 1 _ rfl).1,box8 (w:=W4.drew) k4⟩
 have P5:w5.cell? ⟨d,1,none⟩=some (.map (some m))/\_:=⟨(x5 1 _ rfl).1,box8 k5⟩
 unfold keyV keyA at hr5
 go_region_held3 (fun X=>X.cell? ⟨d,1,none⟩=some (.map (some m))/\(X.cell? ⟨w3.heap.size,0,none⟩=some (.int .u8 (kB s 0))/\X.cell? ⟨w3.heap.size,1,none⟩=some (.int .u8 (kB s 1))/\X.cell? ⟨w3.heap.size,2,none⟩=some (.int .u8 (kB s 2))/\X.cell? ⟨w3.heap.size,3,none⟩=some (.int .u8 (kB s 3))/\X.cell? ⟨w3.heap.size,4,none⟩=some (.int .u8 (kB s 4))/\X.cell? ⟨w3.heap.size,5,none⟩=some (.int .u8 (kB s 5))/\X.cell? ⟨w3.heap.size,6,none⟩=some (.int .u8 (kB s 6))/\X.cell? ⟨w3.heap.size,7,none⟩=some (.int .u8 (kB s 7))))
  (first|with_reducible exact P4|with_reducible exact P5)
  (first|(refine step_delete_run (by rfl) (.tmp 21) (.tmp 22) 126 139 (by rfl) (by rfl) (by rfl) hr5 ?_))
 have ho5:w5.ownsRow base 139 8 (.slice (some ⟨g,0,none⟩) ks.length cap) ks.length (cells8 (ks.map (·.sum))):=World.ownsRow.kept HD4.out.ord hg5' (.inr (fun e=>hdg.2 (Option.some.inj e).symm))
 have HP:=place_any base d m g cap P L wd now given births ks s w5 x5 ho5 hok.len (by have:=hok.w8;omega) (fun x hx=>by have:=hok.sz x hx;omega) hok.sorted
 obtain ⟨q0,q1,q2,q3,q4,q5,q6,q7⟩:=box8 k5
 have HQ:Hid _:=HP
 unfold keyV keyA at HQ
 have HX5:Hid _:=And.intro x5 ho5
 have H5:Hid _:=And.intro hM5 (And.intro hg5' hH)
 clear HP P4 P5 hr5 hM5 hg5 hg5' x5 ho5 k4 k5 hM
 go_wp2_with fail
 refine Calls.mono HQ.out ?_
 rintro e w6 ⟨i,rfl,hpl,hb6⟩
 have hgi:=place_hit hpl (List.mem_map.2 ⟨k0,hk0,hks⟩) hok.sorted
 have hkl:=hok.len
 have hil:i<ks.length:=by have:=(List.getElem?_eq_some_iff.1 hgi).1;simpa using this
 have x6:=CellsAt.below HX5.out.1 hb6
 obtain ⟨y5,f5⟩:=x6 5 _ rfl
 have ho6:w6.ownsRow base 139 8 (.slice (some ⟨g,0,none⟩) (ks.map (·.sum)).length cap) (ks.map (·.sum)).length (cells8 (ks.map (·.sum))):=by
  rw [List.length_map]
  exact own_below HX5.out.2 hb6
 have HDel:=deleteKey_any g cap i (ks.map (·.sum)) w6 base ho6 (by rw [List.length_map];exact hok.len) (by rw [List.length_map];exact hil)
 rw [List.length_map] at HDel
 have HDl:Hid _:=HDel
 have H6:Hid _:=And.intro hgi (And.intro x6 hb6)
 clear hpl hgi x6 HDel ho6 HQ q0 q1 q2 q3 q4 q5 q6 q7
 go_wp2_with fail
 refine Calls.mono HDl.out ?_
 rintro e w7 ⟨rfl,ho7,hg7⟩
 have x7:=CellsAt.far' H6.out.2.1 hg7 (fun e=>hdg.1 e.symm)
 obtain ⟨y7,f7⟩:=x7 5 _ rfl
 have H7:Hid _:=And.intro x7 (And.intro ho7 hg7)
 clear x7 ho7 hg7 y5 f5 HDl
 go_wp2
 go_end0
 have T3:Tn [d,m,g] W4 (w7.setCell ⟨d,5,none⟩ (.slice (some ⟨g,0,none⟩) (ks.length -1) cap)):=
  (((Tn.grown H5.out.2.1 (by simp)).trans (Tn.of H6.out.2.2)).trans (Tn.grown H7.out.2.2 (by simp))).trans (Tn.set w7 d 5 _ (by simp))
 have hsub:∀b∈[d,m,g],b∈vB d m (.slice (some ⟨g,0,none⟩) ks.length cap) P L:=by
  intro b hb
  simp at hb
  unfold vB
  rcases hb with rfl|rfl|rfl<;>simp [Value.ownBlock]
 have hni:∀v:Value,(v=P∨v=L)->∀b,v.ownBlock=some b->b∉[d,m,g]:=by
  intro v hv b hb hin
  unfold vB at hap
  rcases hv with rfl|rfl
  ·simp only [List.nodup_cons,List.mem_cons,List.mem_append,Option.mem_toList,hb] at hap
   simp [Value.ownBlock] at hap hin
   grind
  ·simp only [List.nodup_cons,List.mem_cons,List.mem_append,Option.mem_toList,hb] at hap
   simp [Value.ownBlock] at hap hin
   grind
 have hgk:∃k,ks[i]?=some k/\k.sum=s:=by
  have:=H6.out.1
  rw [List.getElem?_map] at this
  cases hk:ks[i]? with
  |none=>rw [hk] at this;cases this
  |some k=>rw [hk] at this;exact ⟨k,rfl,by simpa using this⟩
 obtain ⟨ki,hki,hkis⟩:=hgk
 have hdk:dropK ks s=ks.eraseIdx i:=hkis▸dropK_erase hok.nd hki
 refine ⟨rfl,.slice (some ⟨g,0,none⟩) (ks.length -1) cap,⟨CellsAt.set H7.out.1 5 _,⟨n,ers f (keyL s),hn,?_,?_⟩,?_,?_,?_,HD4.out.bd,HD4.out.bm,hap⟩,rfl,(Tn.of B4).trans (T3.mono hsub)⟩
 ·refine KMap.same (KMap.same (H5.out.1.keep H6.out.2.2 H5.out.1.lt) (H7.out.2.2.block m (Nat.lt_of_lt_of_le H5.out.1.lt H6.out.2.2.size) (fun e=>hdg.2 (Option.some.inj e)))) ?_
  exact Below.heap_setCell _ _ _ _ (fun e=>hdm e.symm)
 ·exact HoldsV.drop H5.out.2.2 (T3.mono hsub) hsw hok.w8
 ·rw [hdk]
  have h1:(ks.eraseIdx i).length=ks.length -1:=by rw [List.length_eraseIdx,if_pos hil]
  rw [h1]
  have h2:(ks.eraseIdx i).map (·.sum)=(ks.map (·.sum)).eraseIdx i:=by simp [List.eraseIdx_eq_take_drop_succ]
  rw [h2]
  exact own_set H7.out.2.1 (fun b hb=>by simp [Value.ownBlock] at hb;omega) 5 _
 ·exact own_same HD4.out.pin (fun b hb=>T3.block b (own_lt HD4.out.pin hb).2 (hni P (.inl rfl) b hb))
 ·exact own_same HD4.out.lea (fun b hb=>T3.block b (own_lt HD4.out.lea hb).2 (hni L (.inr rfl) b hb))
end Go.Proofs.YtpekbmegopfhfaaGreatDoor
namespace Go.Proofs.YtpekbmegopfhfaaGreatDoor
open Go.ChangeShapes Go.WideShapes Go.ChangeAt Go.RowKit
theorem Dr.lts {w:World} {base d m:Nat} {O P L:Value} {wd now given births:Int} {ks:List Kd} {ps:List Pd} {ls:List Ld} (hd:Dr w base d m O P L wd now given births ks ps ls):∀b∈vB d m O P L,b<w.heap.size:=by
 intro b hb
 unfold vB at hb
 simp only [List.mem_cons,List.mem_append,Option.mem_toList] at hb
 rcases hb with rfl|rfl|hb|hb|hb
 ·exact hd.box.lt
 ·exact (hd.map.choose_spec.choose_spec.2.1).lt
 ·exact (own_lt hd.ord hb).2
 ·exact (own_lt hd.pin hb).2
 ·exact (own_lt hd.lea hb).2
def refV (c:Int) (a b:ByteArray):Value:=.iface 187 (.agg #[.int .i64 c,.string a,.string b])
set_option maxRecDepth 20000 in
set_option maxHeartbeats 2000000 in
theorem drop_held (base d m:Nat) (O P L:Value) (wd now given births:Int) (ks:List Kd) (ps:List Pd) (ls:List Ld) (s:ByteArray) (w:World) (hd:Dr w base d m O P L wd now given births ks ps ls) (hok:KsOk wd ks) (hp:ps.length<=100) (hl:ls.length<=200) (hth:There ks s) (huse:((∃p∈ps,p.sum=s)∨∃l∈ls,l.sum=s)∨∃k∈ks,s∈k.refs):
 Calls Tryz.prog 174 #[.pointer (some ⟨d,0,none⟩),.string s] w fun e w'=>e=.panicked [{v:=refV 6 ⟨#[]⟩ ⟨#[]⟩,recovered:=false}]/\Below w.heap.size w w':=by
 have HD:Hid _:=hd
 clear hd
 go_enter Tryz.func174,Tryz.ntmps174
 go_wp2_with fail
 refine (need_yes base d m O P L wd now given births ks ps ls s w HD.out hok.sz hth).mono ?_
 rintro e w1 ⟨rfl,hb1⟩
 have HD1:Hid _:=Dr.below HD.out hb1
 go_wp2_with fail
 refine (isInUse_any base d m O P L wd now given births ks ps ls s w1 HD1.out hok.nd hok.sz hok.refs hok.len hp hl).mono ?_
 rintro e w2 ⟨ok,rfl,hok2,hb2⟩
 obtain rfl:=hok2.2 huse
 clear hok2 HD1
 go_wp2
 exact ⟨rfl,rfl,hb1.trans (hb2.mono hb1.size)⟩
def z12:List Value:=[.int .i64 0,.int .i64 0,.int .i64 0,.int .i64 0,.int .i64 0,.slice none 0 0,.slice none 0 0,.slice none 0 0,.string ⟨#[]⟩,.int .i64 0,.string ⟨#[]⟩,.string ⟨#[]⟩]
theorem z12at {w:World} {b:Nat} (h:CellsAt w b z12):(w.cell? ⟨b,0,none⟩=some (.int .i64 0)/\w.frozen? ⟨b,0,none⟩=false)/\(w.cell? ⟨b,1,none⟩=some (.int .i64 0)/\w.frozen? ⟨b,1,none⟩=false)/\(w.cell? ⟨b,2,none⟩=some (.int .i64 0)/\w.frozen? ⟨b,2,none⟩=false)/\(w.cell? ⟨b,3,none⟩=some (.int .i64 0)/\w.frozen? ⟨b,3,none⟩=false)/\(w.cell? ⟨b,4,none⟩=some (.int .i64 0)/\w.frozen? ⟨b,4,none⟩=false)/\(w.cell? ⟨b,5,none⟩=some (.slice none 0 0)/\w.frozen? ⟨b,5,none⟩=false)/\(w.cell? ⟨b,6,none⟩=some (.slice none 0 0)/\w.frozen? ⟨b,6,none⟩=false)/\(w.cell? ⟨b,7,none⟩=some (.slice none 0 0)/\w.frozen? ⟨b,7,none⟩=false)/\(w.cell? ⟨b,8,none⟩=some (.string ⟨#[]⟩)/\w.frozen? ⟨b,8,none⟩=false)/\(w.cell? ⟨b,9,none⟩=some (.int .i64 0)/\w.frozen? ⟨b,9,none⟩=false)/\(w.cell? ⟨b,10,none⟩=some (.string ⟨#[]⟩)/\w.frozen? ⟨b,10,none⟩=false)/\(w.cell? ⟨b,11,none⟩=some (.string ⟨#[]⟩)/\w.frozen? ⟨b,11,none⟩=false):=
 ⟨h 0 _ rfl,h 1 _ rfl,h 2 _ rfl,h 3 _ rfl,h 4 _ rfl,h 5 _ rfl,h 6 _ rfl,h 7 _ rfl,h 8 _ rfl,h 9 _ rfl,h 10 _ rfl,h 11 _ rfl⟩
theorem tn12 (w:World) (R:Nat) (a0 a1 a2 a3 a4 a5 a6 a7 a8 a9 a10 a11:Value):Tn [R] w ((((((((((((w.setCell ⟨R,0,none⟩ a0).setCell ⟨R,1,none⟩ a1).setCell ⟨R,2,none⟩ a2).setCell ⟨R,3,none⟩ a3).setCell ⟨R,4,none⟩ a4).setCell ⟨R,5,none⟩ a5).setCell ⟨R,6,none⟩ a6).setCell ⟨R,7,none⟩ a7).setCell ⟨R,8,none⟩ a8).setCell ⟨R,9,none⟩ a9).setCell ⟨R,10,none⟩ a10).setCell ⟨R,11,none⟩ a11):=
 have h:∀(x:World) (j:Nat) (v:Value),Tn [R] x (x.setCell ⟨R,j,none⟩ v):=fun x j v=>Tn.set x R j v (by simp)
 (((((((((((h w 0 a0).trans (h _ 1 a1)).trans (h _ 2 a2)).trans (h _ 3 a3)).trans (h _ 4 a4)).trans (h _ 5 a5)).trans (h _ 6 a6)).trans (h _ 7 a7)).trans (h _ 8 a8)).trans (h _ 9 a9)).trans (h _ 10 a10)).trans (h _ 11 a11)
theorem Tn.fresh {V:List Nat} {w w1 w':World} {R:Nat} (h1:Tn V w w1) (h2:Tn [R] w1 w') (hR:w.heap.size<=R):Tn V w w':=
 ⟨h2.os.trans h1.os,h2.tape.trans h1.tape,h2.output.trans h1.output,Nat.le_trans h1.size h2.size,fun b hb hv=>(h2.block b (Nat.lt_of_lt_of_le hb h1.size) (by simp;omega)).trans (h1.block b hb hv)⟩
def dropE (s:ByteArray):Array Value:= #[.int .i64 7,.string s,.string ⟨#[]⟩,.int .i64 0,.string ⟨#[]⟩,.slice none 0 0]
set_option maxRecDepth 20000 in
set_option maxHeartbeats 1000000 in
theorem catch_idle (p:Addr) (w:World):
 CallsD Tryz.prog 138 #[.pointer (some p)] .returning w fun e u' w'=>e=.returned (.tuple #[])/\u'=.returning/\w'=w:=by
 have hnil:∀w:World,(binOp BinOp.eql 20 .nilIface .nilIface).run Tryz.prog w=.ok (.bool true) w:=fun _=>by kernel_rfl
 refine callsD_of_wpS Tryz.func138 rfl fun c₀ cs hu=> ?_
 apply wpS_seq
 apply wpS_region
 simp [wpOpsS,go_sem,recoverD,hu,Tryz.ntmps138,Exit.thenS]
 refine wpS_of_wp ?_
 change Code.wp Tryz.prog _ _ {tmps:= #[Value.pointer (some p),undef,undef,undef,Value.nilIface,undef,undef,undef,undef,undef,undef,undef,undef,undef,undef,undef,undef],defers:=[]} w
 go_wp2
 cases c₀
 simp_all [bodyPostS,results,Tryz.results138]
theorem set12 {w:World} {b:Nat} (h:CellsAt w b z12) (a0 a1 a2 a3 a4 a5 a6 a7 a8 a9 a10 a11:Value):CellsAt ((((((((((((w.setCell ⟨b,0,none⟩ a0).setCell ⟨b,1,none⟩ a1).setCell ⟨b,2,none⟩ a2).setCell ⟨b,3,none⟩ a3).setCell ⟨b,4,none⟩ a4).setCell ⟨b,5,none⟩ a5).setCell ⟨b,6,none⟩ a6).setCell ⟨b,7,none⟩ a7).setCell ⟨b,8,none⟩ a8).setCell ⟨b,9,none⟩ a9).setCell ⟨b,10,none⟩ a10).setCell ⟨b,11,none⟩ a11) b [a0,a1,a2,a3,a4,a5,a6,a7,a8,a9,a10,a11]:=
 ((((((((((((h.set 0 a0).set 1 a1).set 2 a2).set 3 a3).set 4 a4).set 5 a5).set 6 a6).set 7 a7).set 8 a8).set 9 a9).set 10 a10).set 11 a11)
def refC (c:Int) (a b:ByteArray):List Value:=[.int .i64 c,.int .i64 0,.int .i64 0,.int .i64 0,.int .i64 0,.slice none 0 0,.slice none 0 0,.slice none 0 0,.string ⟨#[]⟩,.int .i64 0,.string a,.string b]
set_option maxRecDepth 20000 in
set_option maxHeartbeats 2000000 in
theorem catch_panic (R:Nat) (c:Int) (a b:ByteArray) (w:World) (hz:CellsAt w R z12):
 CallsD Tryz.prog 138 #[.pointer (some ⟨R,0,none⟩)] (.panicking [{v:=refV c a b,recovered:=false}]) w fun e u' w'=>e=.returned (.tuple #[])/\u'=.panicking [{v:=refV c a b,recovered:=true}]/\CellsAt w' R (refC c a b)/\Tn [R] w w':=by
 have hnil:∀w:World,(binOp BinOp.eql 20 (.iface 187 (.agg #[.int .i64 c,.string a,.string b])) .nilIface).run Tryz.prog w=.ok (.bool false) w:=fun _=>by first|rfl|kernel_rfl
 have hta:∀w:World,(Instr.typeAssert (.iface 187 (.agg #[.int .i64 c,.string a,.string b])) 20 187 true).run Tryz.prog w=.ok (.tuple #[.agg #[.int .i64 c,.string a,.string b],.bool true]) w:=fun _=>by first|rfl|kernel_rfl
 obtain ⟨⟨y0,q0⟩,⟨y1,q1⟩,⟨y2,q2⟩,⟨y3,q3⟩,⟨y4,q4⟩,⟨y5,q5⟩,⟨y6,q6⟩,⟨y7,q7⟩,⟨y8,q8⟩,⟨y9,q9⟩,⟨y10,q10⟩,y11,q11⟩:=z12at hz
 have hRl:R<w.heap.size:=CellsAt.lt (v:=.int .i64 0) hz
 have hne:¬w.heap.size=R:=by omega
 have hne':¬R=w.heap.size:=by omega
 unfold refV
 refine callsD_of_wpS Tryz.func138 rfl fun c₀ cs hu=> ?_
 apply wpS_seq
 apply wpS_region
 simp [wpOpsS,go_sem,recoverD,hu,Tryz.ntmps138,Exit.thenS]
 refine wpS_of_wp ?_
 change Code.wp Tryz.prog _ _ {tmps:= #[Value.pointer (some ⟨R,0,none⟩),undef,undef,undef,.iface 187 (.agg #[.int .i64 c,.string a,.string b]),undef,undef,undef,undef,undef,undef,undef,undef,undef,undef,undef,undef],defers:=[]} w
 go_wp2
 simp [bodyPostS,results,Tryz.results138]
 exact ⟨CellsAt.below (v:=.int .i64 c) (set12 hz _ _ _ _ _ _ _ _ _ _ _ _) ((Below.refl _ _).alloc (Nat.le_refl _) _),(tn12 w R _ _ _ _ _ _ _ _ _ _ _ _).trans (Tn.of ((Below.refl _ _).alloc (Nat.le_refl _) _))⟩
end Go.Proofs.YtpekbmegopfhfaaGreatDoor
namespace Go.Proofs.YtpekbmegopfhfaaGreatDoor
open Go.ChangeShapes Go.WideShapes Go.ChangeAt Go.RowKit
theorem Holds.low {W w:World} {B:Nat} {wd:Int} {ks:List Kd} {f:Lit->Option Value} (h:Holds W B wd ks f) (hb:Below B W w):Holds w B wd ks f:=by
 intro s hs
 rcases h s hs with h|⟨u,ra,rc,h1,h2,h3,h4⟩
 ·exact .inl h
 ·exact .inr ⟨u,ra,rc,h1,h2,h3,SRow.below h4 hb⟩
def HU (w:World) (base m:Nat) (wd:Int) (ks:List Kd):Prop:=∃n f,n<=1000000/\KMap w 139 m n f/\Holds w base wd ks f
theorem tn1 (w:World) (R j:Nat) (v:Value):Tn [R] w (w.setCell ⟨R,j,none⟩ v):=Tn.set w R j v (by simp)
theorem tn_grown {w w':World} {b:Option Nat} (hg:w.grownBy w' b):Tn b.toList w w':=⟨hg.os,hg.tape,hg.output,hg.size,fun k hk hv=>hg.block k hk (fun e=>hv (by simp [←e]))⟩
end Go.Proofs.YtpekbmegopfhfaaGreatDoor
namespace Go.Proofs.YtpekbmegopfhfaaGreatDoor
open Go.ChangeShapes Go.WideShapes Go.ChangeAt Go.RowKit
def HN (w:World) (m N:Nat):Prop:=∃n f,n<=N/\KMap w 139 m n f
set_option maxRecDepth 20000 in
set_option maxHeartbeats 8000000 in
theorem draftOfN_any (wd now given births:Int) (a p l:Option Addr) (ac pc lc:Nat) (ks:List Kd) (ps:List Pd) (ls:List Ld) (w:World) (hrow:SRows w w.heap.size a p l ks ps ls) (hk:ks.length<=600) (hp:ps.length<=100) (hl:ls.length<=200) (hsz:∀k∈ks,(k.sum.size:Int)=wd) (h8:wd<=8):
 Calls Tryz.prog 92 #[.agg #[.int .i64 wd,.int .i64 now,.int .i64 given,.int .i64 births,.slice a ks.length ac,.slice p ps.length pc,.slice l ls.length lc]] w fun e w'=>∃d m O P L,e=.returned (.pointer (some ⟨d,0,none⟩))/\Dr w' (w.heap.size+1) d m O P L wd now given births ks ps ls/\HU w' (w.heap.size+1) m wd ks/\HN w' m 600/\Below w.heap.size w w':=by
 have hx:=SBox.new w wd now given births (.slice a ks.length ac) (.slice p ps.length pc) (.slice l ls.length lc) 28
 obtain ⟨W0,hW0⟩:∃W,W=w.alloc (.cells #[.int .i64 wd,.int .i64 now,.int .i64 given,.int .i64 births,.slice a ks.length ac,.slice p ps.length pc,.slice l ls.length lc] 28):=⟨_,rfl⟩
 have hB0:Below w.heap.size w W0:=by rw [hW0];exact (Below.refl _ _).alloc (Nat.le_refl _) _
 have hz0:W0.heap.size=w.heap.size+1:=by rw [hW0];simp
 rw [←hW0] at hx
 have HROW:Hid _:=hrow
 have HX:Hid _:=hx
 have HW0:Hid _:=hW0
 have S0:=sq7 hx
 have S0d:W0.drew.cell? ⟨w.heap.size,0,none⟩=some (.int .i64 wd)/\W0.drew.cell? ⟨w.heap.size,1,none⟩=some (.int .i64 now)/\W0.drew.cell? ⟨w.heap.size,2,none⟩=some (.int .i64 given)/\W0.drew.cell? ⟨w.heap.size,3,none⟩=some (.int .i64 births)/\W0.drew.cell? ⟨w.heap.size,4,none⟩=some (.slice a ks.length ac)/\W0.drew.cell? ⟨w.heap.size,5,none⟩=some (.slice p ps.length pc)/\W0.drew.cell? ⟨w.heap.size,6,none⟩=some (.slice l ls.length lc):=S0
 have K0:KRow W0.drew W0.drew.heap.size a ks:=KRow.mono (KRow.below hrow.k hB0.drew) hB0.size
 have hk':ks.length<=1048576:=by omega
 have hp':ps.length<=1048576:=by omega
 have hl':ls.length<=1048576:=by omega
 clear hrow hx hW0
 go_enter Tryz.func92,Tryz.ntmps92
 go_upto_region 1 with fail
 rw [←HW0.out]
 clear HW0
 go_region_held3 (fun w'=>w'.cell? ⟨w.heap.size,0,none⟩=some (.int .i64 wd)/\w'.cell? ⟨w.heap.size,1,none⟩=some (.int .i64 now)/\w'.cell? ⟨w.heap.size,2,none⟩=some (.int .i64 given)/\w'.cell? ⟨w.heap.size,3,none⟩=some (.int .i64 births)/\w'.cell? ⟨w.heap.size,4,none⟩=some (.slice a ks.length ac)/\w'.cell? ⟨w.heap.size,5,none⟩=some (.slice p ps.length pc)/\w'.cell? ⟨w.heap.size,6,none⟩=some (.slice l ls.length lc))
  (first|exact S3|exact S2|exact S1|exact S0d|exact sq7 (SBox.below X3.out ((Below.refl _ _).alloc (Nat.le_refl _) _)))
  (first
  |(go_at_call 134;refine (shelfOf_any wd now given births a ac (.slice p ps.length pc) (.slice l ls.length lc) ks W0.drew K0 hk' hsz h8).mono ?_;rintro e w1 ⟨m,f,rfl,hm,hM,hH,hb1⟩;have B1:Below W0.heap.size W0 w1:=(Below.refl W0.heap.size W0).drew.trans hb1;have S1:=sq7 (SBox.below HX.out B1))
  |(go_at_call 96;refine (clonePin_any p pc ps w1 (PRow.mono (PRow.below HROW.out.p (hB0.trans (B1.mono hB0.size))) (hB0.trans (B1.mono hB0.size)).size) hp').mono ?_;rintro e w2 ⟨p2,pc2,rfl,ho2,hb2⟩;have B2:Below W0.heap.size W0 w2:=B1.trans (hb2.mono B1.size);have S2:=sq7 (SBox.below HX.out B2))
  |(go_at_call 97;refine (cloneLease_any l lc ls w2 (LRow.mono (LRow.below HROW.out.l (hB0.trans (B2.mono hB0.size))) (hB0.trans (B2.mono hB0.size)).size) hl').mono ?_;rintro e w3 ⟨l3,lc3,rfl,ho3,hb3⟩;have B3:Below W0.heap.size W0 w3:=B2.trans (hb3.mono B2.size);have X3:Hid _:=SBox.below HX.out B3;have S3:=sq7 X3.out))
 obtain ⟨W4,hW4⟩:∃W,W=w3.alloc (.cells #[.int .i64 wd,.map (some m),.int .i64 now,.int .i64 given,.int .i64 births,.slice none 0 0,.slice p2 ps.length pc2,.slice l3 ls.length lc3] 131):=⟨_,rfl⟩
 have hz4:W4.heap.size=w3.heap.size+1:=by rw [hW4];simp
 have hb4:Below w3.heap.size w3 W4:=by rw [hW4];exact (Below.refl _ _).alloc (Nat.le_refl _) _
 have Z4:CellsAt W4 w3.heap.size [.int .i64 wd,.map (some m),.int .i64 now,.int .i64 given,.int .i64 births,.slice none 0 0,.slice p2 ps.length pc2,.slice l3 ls.length lc3]:=by rw [hW4];exact CellsAt.new w3 _ _
 have hz01:w.heap.size+1<=w1.heap.size:=by have:=B1.size;omega
 have hz12:=hb2.size
 have hz23:=hb3.size
 have hm3:m<w1.heap.size:=hM.lt
 have B4:Below w.heap.size w W4:=(hB0.trans (B3.mono hB0.size)).trans (hb4.mono (by omega))
 have B04:Hid (Below W0.drew.heap.size W0.drew W4):=((hb1.trans (hb2.mono (by simp;omega))).trans (hb3.mono (by simp;omega))).trans (hb4.mono (by simp;omega))
 have HX4:Hid _:=SBox.below X3.out hb4
 have HM4:Hid (KMap W4 139 m ks.length f):=hM.keep (B:=w1.heap.size) ((hb2.trans (hb3.mono hz12)).trans (hb4.mono (by omega))) hm3
 have HP4:Hid (W4.ownsRow w1.heap.size 134 2 (.slice p2 ps.length pc2) ps.length (rowC pC ps)):=own_below (own_below ho2 hb3) hb4
 have HL4:Hid (W4.ownsRow w2.heap.size 137 3 (.slice l3 ls.length lc3) ls.length (rowC lC ls)):=own_below ho3 hb4
 have HP2:Hid (∀g,(Value.slice p2 ps.length pc2).ownBlock=some g->w1.heap.size<=g/\g<w2.heap.size):=fun g hg=>own_lt ho2 hg
 have HL3:Hid (∀g,(Value.slice l3 ls.length lc3).ownBlock=some g->w2.heap.size<=g/\g<w3.heap.size):=fun g hg=>own_lt ho3 hg
 have HH:Hid _:=hH
 have HZ4:Hid _:=Z4
 have hm0:w.heap.size+1<=m:=by have:=hm;simp at this;omega
 rw [←hW4]
 clear hW4 S0 S0d S1 S2 S3 X3 HX B1 B2 B3 hb1 hb2 hb3 hM ho2 ho3 hH Z4 K0 hm
 obtain ⟨x0,x1,x2,x3,x4,x5,x6,x7⟩:=HX4.out
 go_wp2
 go_loopw [25] (fun i wr=>∃(k:Nat) (O:Value),k<=ks.length/\i=.int .i64 k/\Hid (CellsAt wr w3.heap.size [.int .i64 wd,.map (some m),.int .i64 now,.int .i64 given,.int .i64 births,O,.slice p2 ps.length pc2,.slice l3 ls.length lc3])/\Hid (wr.ownsRow (w3.heap.size+1) 139 8 O ((ks.take k).map (·.sum)).length (cells8 ((ks.take k).map (·.sum))))/\Below w3.heap.size W4 wr) (fun i _=>ks.length -(intOf i).toNat)
 case atStart=>exact ⟨0,_,Nat.zero_le _,rfl,HZ4,⟨rfl,.inl ⟨rfl,rfl⟩⟩,Below.refl _ _⟩
 case round=>
  clear x0 x1 x2 x3 x4 x5 x6 x7 HZ4
  obtain ⟨k,O,hkl,rfl,HZ,HO,hbel⟩:=hrel
  obtain ⟨x0,x1,x2,x3,x4,x5,x6,x7⟩:=SBox.keep HX4.out hbel (by omega)
  have hzr:w3.heap.size+1<=wr.heap.size:=by have:=hbel.size;omega
  by_cases hlt:k<ks.length
  ·obtain ⟨b,off,ha,hb,hc⟩:=(KRow.below HROW.out.k (B4.trans (hbel.mono (by omega)))).at hlt
   subst ha
   have HG:Hid (ks[k]?=some ks[k]):=List.getElem?_eq_getElem hlt
   obtain ⟨c0,c1,c2,ra,rc,c3,_⟩:=hc k _ HG.out
   have hbr:b<wr.heap.size:=by omega
   have HN:Hid ((ks.take (k+1)).map (·.sum)=(ks.take k).map (·.sum)++[ks[k].sum]):=by
    show _=_
    rw [List.take_succ_eq_append_getElem hlt,List.map_append]
    rfl
   have hln:((ks.take k).map (·.sum)).length<=600:=by simp;omega
   clear hc
   generalize ks[k]=x at *
   generalize (ks.take k).map (·.sum)=Os at *
   obtain ⟨W5,hW5⟩:∃W,W=wr.alloc (.cells #[.string x.sum,.int .i64 x.born,.string x.text,.slice ra x.refs.length rc] 114):=⟨_,rfl⟩
   have hz5:W5.heap.size=wr.heap.size+1:=by rw [hW5];simp
   have b5:Below wr.heap.size wr W5:=by rw [hW5];exact (Below.refl _ _).alloc (Nat.le_refl _) _
   have Z5:CellsAt W5 wr.heap.size [.string x.sum,.int .i64 x.born,.string x.text,.slice ra x.refs.length rc]:=by rw [hW5];exact CellsAt.new wr _ _
   have HOr:Hid _:=HO.out
   have HO5:Hid _:=own_below HO.out b5
   have HZ5:Hid _:=CellsAt.below HZ.out b5
   have HB5:Hid (Below w3.heap.size W4 W5):=hbel.trans (b5.mono (by omega))
   have P5:W5.drew.cell? ⟨w3.heap.size,5,none⟩=some O/\W5.drew.cell? ⟨wr.heap.size,0,none⟩=some (.string x.sum):=⟨(HZ5.out 5 _ rfl).1,(Z5 0 _ rfl).1⟩
   have D5:Below W5.heap.size W5 W5.drew:=(Below.refl _ _).drew
   have HW5:Hid _:=hW5
   clear hW5 Z5 HO HZ
   go_upto_region 5 with fail
   rw [←HW5.out]
   clear HW5 x0 x1 x2 x3 x4 x5 x6 x7 c0 c1 c2 c3
   obtain ⟨P5a,P5b⟩:=P5
   have hne:∀g,O.ownBlock=some g->w3.heap.size+1<=g/\g<wr.heap.size:=fun g hg=>own_lt HOr.out hg
   have hwn:wr.heap.size≠w3.heap.size:=by omega
   go_region_law (first
    |(go_simp;go_at_call 135;refine (key_out x.sum W5.drew).mono ?_;rintro e w6 ⟨rfl,hb6⟩;have b6:Below W5.heap.size W5 w6:=D5.trans hb6;have P6a:w6.cell? ⟨w3.heap.size,5,none⟩=some O:=(b6.cell (p:=⟨w3.heap.size,5,none⟩) (by simp;omega)).trans P5a;have P6b:w6.cell? ⟨wr.heap.size,0,none⟩=some (.string x.sum):=(b6.cell (p:=⟨wr.heap.size,0,none⟩) (by simp;omega)).trans P5b;have b7:Below W5.heap.size W5 (w6.alloc (oneK x.sum)):=b6.alloc b6.size _;have P7a:(w6.alloc (oneK x.sum)).cell? ⟨w3.heap.size,5,none⟩=some O:=(b7.cell (p:=⟨w3.heap.size,5,none⟩) (by simp;omega)).trans P5a;have P7b:(w6.alloc (oneK x.sum)).cell? ⟨wr.heap.size,0,none⟩=some (.string x.sum):=(b7.cell (p:=⟨wr.heap.size,0,none⟩) (by simp;omega)).trans P5b;have z6:=b6.size;obtain ⟨g8,c8,w8,hr8,ho8,hg8,ha8⟩:=opush w6 (w3.heap.size+1) O Os (own_below HO5.out b6) x.sum (by omega) (by omega) 129;have Z6:=CellsAt.below HZ5.out b6;unfold oneK at hr8 P7a P7b;go_wp2_with fail)
    |(refine step_append_run (by rfl) (.tmp 33) (.tmp 37) 129 129 (by rfl) (by rfl) (by rfl) hr8 ?_;have P8b:w8.cell? ⟨wr.heap.size,0,none⟩=some (.string x.sum):=hg8.cell P6b (fun e=>by have:=(hne _ e.symm).2;simp at this);have Z8:CellsAt w8 w3.heap.size _:=(CellsAt.same Z6 (hg8.block w3.heap.size (by omega) (fun e=>by have:=(hne _ e.symm).1;omega)));have P8a:=(Z8 5 _ rfl).1;have F8:=(Z8 5 _ rfl).2))
   all_goals
    have hx8:Below w3.heap.size W4 w8:=(HB5.out.trans (b6.mono (by omega))).grown hg8 (by omega) (fun g hg=>by have:=(hne g hg).1;omega)
    have HX8:Hid _:=And.intro Z8 (And.intro hx8 ho8)
    clear Z8 hx8 ho8 hg8 hr8 Z6 b6 b7 hb6 HO5 HZ5 HB5 P5a P5b P6a P6b P7a P7b P8a P8b F8 ha8 D5 b5
    go_wp2
    refine ⟨⟨k+1,.slice (some ⟨g8,0,none⟩) (Os.length+1) c8,by omega,by go_num,?_,?_,?_⟩,by simp [intOf];omega⟩
    ·exact CellsAt.set HX8.out.1 5 _
    ·rw [HN.out]
     exact ownsRow_setCell_below HX8.out.2.2 (by simp<;>omega) _
    ·exact HX8.out.2.1.setCell (by simp) _
  ·obtain rfl:k=ks.length:=by omega
   rw [List.take_of_length_le (Nat.le_refl _)] at HO
   go_wp2
   have hap:(vB w3.heap.size m O (.slice p2 ps.length pc2) (.slice l3 ls.length lc3)).Nodup:=by
    have hO:∀g,O.ownBlock=some g->w3.heap.size+1<=g:=fun g hg=>(own_lt HO.out hg).1
    have hP:∀g,(Value.slice p2 ps.length pc2).ownBlock=some g->w1.heap.size<=g/\g<w2.heap.size:=HP2.out
    have hL:∀g,(Value.slice l3 ls.length lc3).ownBlock=some g->w2.heap.size<=g/\g<w3.heap.size:=HL3.out
    unfold vB
    generalize (Value.slice p2 ps.length pc2).ownBlock=bp at *
    generalize (Value.slice l3 ls.length lc3).ownBlock=bl at *
    generalize O.ownBlock=bo at *
    cases bo<;>cases bp<;>cases bl<;>simp_all<;>omega
   have hV:∀q∈vB w3.heap.size m O (.slice p2 ps.length pc2) (.slice l3 ls.length lc3),w.heap.size+1<=q:=by
    intro q hq
    unfold vB at hq
    simp only [List.mem_cons,List.mem_append,Option.mem_toList] at hq
    rcases hq with rfl|rfl|hq|hq|hq
    ·omega
    ·omega
    ·have:=(own_lt HO.out hq).1;omega
    ·have:=(HP2.out _ hq).1;omega
    ·have:=(HL3.out _ hq).1;omega
   go_ret
   refine ⟨_,rfl,m,⟨O,_,_,⟨HZ.out,⟨ks.length,f,by omega,HM4.out.keep hbel (by omega),?_⟩,?_,?_,?_,by omega,by omega,hap⟩⟩,⟨ks.length,f,by omega,HM4.out.keep hbel (by omega),?hu⟩,⟨ks.length,f,hk,HM4.out.keep hbel (by omega)⟩,B4.trans (hbel.mono (by omega))⟩
   ·have hq:W0.drew.heap.size=w.heap.size+1:=hz0
    rw [←hq]
    exact HoldsV.of HH.out (B04.out.trans (hbel.mono (by simp;omega))) (fun q hq=>by have:=hV q hq;simp;omega)
   ·have:=HO.out
    rw [List.length_map] at this
    exact this.mono (by omega)
   ·refine World.ownsRow.mono ?_ (show w.heap.size+1<=w1.heap.size by omega)
    exact own_at HP4.out hbel (fun g hg=>by have:=(HP2.out g hg).2;omega)
   ·refine World.ownsRow.mono ?_ (show w.heap.size+1<=w2.heap.size by omega)
    exact own_at HL4.out hbel (fun g hg=>by have:=(HL3.out g hg).2;omega)
   case hu=>
    have hq:W0.drew.heap.size=w.heap.size+1:=hz0
    rw [←hq]
    exact Holds.low HH.out (B04.out.trans (hbel.mono (by simp;omega)))
end Go.Proofs.YtpekbmegopfhfaaGreatDoor
