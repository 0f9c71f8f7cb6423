import Derived.Test.YtpekbmegopfhfaaGreatDoorW01
import Derived.Maps.AppendAt
import Derived.Lib.SmallJoins
import Derived.Deep.RegionLaw
import Derived.Laws.OwnMore
import Derived.Test.YtpekbmegopfhfaaGreatDoorW19
namespace Go.Proofs.YtpekbmegopfhfaaGreatDoor
open Go.ChangeShapes Go.WideShapes Go.ChangeAt Go.RowKit
theorem step_append_row2 {P:Program} (w:World) {ops:Array Oper} {o:Oper} {a:Act} {K:Act->World->Prop} {Q:Exit->Act->World->Prop} {E:Prop} (hgd:o.guard=none) (sl x:Operand) (t:TypeId)
 (ho:o.op=.call {callee:=.builtin .append,args:= #[sl,x],argTypes:= #[t,t]})
 (base:Nat) (e:TypeId) (i:TypeInfo) (z:Value) (bytes:Nat) (ht:P.underlying t=some (.slice e)) (hi:P.info? e=some i) (hz:i.zero=some z)
 (hsize:i.size=1) (hby:i.bytes=bytes) (hzs:z.cells.size=1)
 (q n c0:Nat) (ss:List ByteArray) (hs:a.eval sl=.slice (some ⟨q,0,none⟩) n c0) (hown:w.ownsRow base e 1 (.slice (some ⟨q,0,none⟩) n c0) n (ss.map Value.string))
 (ad:Addr) (m c:Nat) (tt:List ByteArray) (hx:a.eval x=.slice (some ad) m c) (hl:tt.length=m) (hnews:∀j s,tt[j]?=some s->w.cell? (ad.add j)=some (.string s))
 (h63:n+m<=maxLen) (hbytes:(n+m) *bytes<=140737488355328) (hbase:base<=w.heap.size)
 (h:∀g cap w',w'.ownsRow base e 1 (.slice (some ⟨g,0,none⟩) (n+m) cap) (n+m) ((ss++tt).map Value.string)->w.grownBy w' (some q)->(g=q∨g=w.heap.size)->g<w'.heap.size->K (a.put o.dst (.slice (some ⟨g,0,none⟩) (n+m) cap)) w'):
 if Region.wanted o (yielded ops a.tmps)=true then Oper.wp P o a w K Q else E:=by
 have hw:Region.wanted o (yielded ops a.tmps)=true:=by simp [Region.wanted,hgd]
 rw [if_pos hw]
 obtain ⟨v',w',hr,h2,h3,h4,h5⟩:=run_append_own_at (P:=P) w base t o.type e i z 1 bytes ht hi hz hsize hby hzs (by decide) _ n _ hown ad m c (tt.map Value.string) (by simp [hl])
  (fun j u hu=>by
    rw [List.getElem?_map] at hu
    cases hs:tt[j]? with
    |none=>rw [hs] at hu;cases hu
    |some s=>rw [hs] at hu;cases hu;exact hnews j s hs)
  (fun u hu=>by obtain ⟨s,_,rfl⟩:=List.mem_map.1 hu;rfl) h63 hbytes hbase
 have hform:∃g cap,v'=.slice (some ⟨g,0,none⟩) (n+m) cap:=by
  rcases Joins.ownsRow_forms h2 with ⟨e1,_⟩|hf
  ·have:=(h4.1 e1).1
   cases this
  ·exact hf
 obtain ⟨g,cap,rfl⟩:=hform
 unfold Oper.wp execOp
 simp only [ho,resolve,invoke,builtin,Sem.run_bind,Sem.run_pure,Result.andThen_ok,List.map_toArray,List.map_cons,List.map_nil,hs,hx,hr]
 refine h g cap w' (by rw [List.map_append];exact h2) h3 ?_ (h2.lt g rfl).2
 rcases h5 with h5|h5
 ·left;simpa [Value.ownBlock] using h5
 ·right;simpa [Value.ownBlock] using h5
theorem step_append_rowO {P:Program} (w:World) {ops:Array Oper} {o:Oper} {a:Act} {K:Act->World->Prop} {Q:Exit->Act->World->Prop} {E:Prop} (hgd:o.guard=none) (sl x:Operand) (t:TypeId)
 (ho:o.op=.call {callee:=.builtin .append,args:= #[sl,x],argTypes:= #[t,t]})
 (base:Nat) (e:TypeId) (i:TypeInfo) (z:Value) (bytes:Nat) (ht:P.underlying t=some (.slice e)) (hi:P.info? e=some i) (hz:i.zero=some z)
 (hsize:i.size=1) (hby:i.bytes=bytes) (hzs:z.cells.size=1)
 (q n c0:Nat) (ss:List ByteArray) (hs:a.eval sl=.slice (some ⟨q,0,none⟩) n c0) (hown:w.ownsRow base e 1 (.slice (some ⟨q,0,none⟩) n c0) n (ss.map Value.string))
 (ad:Option Addr) (m c:Nat) (tt:List ByteArray) (hx:a.eval x=.slice ad m c) (hl:tt.length=m) (hnil:ad=none->m=0/\c=0) (hnews:∀A,ad=some A->∀j s,tt[j]?=some s->w.cell? (A.add j)=some (.string s))
 (h63:n+m<=maxLen) (hbytes:(n+m) *bytes<=140737488355328) (hbase:base<=w.heap.size)
 (h:∀g cap w',w'.ownsRow base e 1 (.slice (some ⟨g,0,none⟩) (n+m) cap) (n+m) ((ss++tt).map Value.string)->w.grownBy w' (some q)->(g=q∨g=w.heap.size)->g<w'.heap.size->K (a.put o.dst (.slice (some ⟨g,0,none⟩) (n+m) cap)) w'):
 if Region.wanted o (yielded ops a.tmps)=true then Oper.wp P o a w K Q else E:=by
 cases ad with
 |some A=>exact step_append_row2 w hgd sl x t ho base e i z bytes ht hi hz hsize hby hzs q n c0 ss hs hown A m c tt hx hl (hnews A rfl) h63 hbytes hbase h
 |none=>
  obtain ⟨rfl,rfl⟩:=hnil rfl
  have htt:tt=[]:=List.eq_nil_of_length_eq_zero hl
  subst htt
  have hw:Region.wanted o (yielded ops a.tmps)=true:=by simp [Region.wanted,hgd]
  rw [if_pos hw]
  have hr:(Builtin.append_ #[t,t] o.type #[.slice (some ⟨q,0,none⟩) n c0,.slice none 0 0]).run P w=.ok (.slice (some ⟨q,0,none⟩) n c0) w:=run_append_owned_none (P:=P) w base t o.type e i 1 ht hi _ n _ hown
  unfold Oper.wp execOp
  simp only [ho,resolve,invoke,builtin,Sem.run_bind,Sem.run_pure,Result.andThen_ok,List.map_toArray,List.map_cons,List.map_nil,hs,hx,hr]
  exact h q c0 w (by simpa using hown) ⟨rfl,rfl,rfl,Nat.le_refl _,fun _ _ _=>rfl⟩ (.inl rfl) (hown.lt q rfl).2
theorem SRow.cellsO {w:World} {B:Nat} {a:Option Addr} {ss:List ByteArray} (h:SRow w B a ss):∀A,a=some A->∀j s,ss[j]?=some s->w.cell? (A.add j)=some (.string s):=by
 rintro A rfl j s hs
 rcases h with h|⟨b,off,h1,_,h3⟩
 ·subst h;simp at hs
 ·cases h1
  have:=h3 j s hs
  rw [Go.WideShapes.add_plain]
  exact this
end Go.Proofs.YtpekbmegopfhfaaGreatDoor
namespace Go.Proofs.YtpekbmegopfhfaaGreatDoor
open Go.ChangeShapes Go.WideShapes Go.ChangeAt Go.RowKit
set_option maxRecDepth 20000 in
set_option maxHeartbeats 4000000 in
theorem l1Thing_any (t:ByteArray) (ra:Option Addr) (rc:Nat) (ss:List ByteArray) (w:World) (hr:SRow w w.heap.size ra ss) (hnil:ra=none->ss.length=0/\rc=0) (hl:ss.length<=100000):
 Calls Tryz.prog 73 #[.agg #[.string t,.slice ra ss.length rc]] w fun e w'=>∃g c,e=.returned (.agg #[.string t,.slice (some ⟨g,0,none⟩) ss.length c])/\
  w'.ownsRow w.heap.size 9 1 (.slice (some ⟨g,0,none⟩) ss.length c) ss.length (ss.map Value.string)/\Below w.heap.size w w':=by
 obtain ⟨i0,hi,hz0,hz1,hz2⟩:=info_parts Tryz.infoStr
 obtain ⟨W0,hW0⟩:∃W0,W0=w.alloc (.cells #[.string t,.slice ra ss.length rc] 66):=⟨_,rfl⟩
 have h00:Below w.heap.size w W0:=by rw [hW0];exact (Below.refl _ _).alloc (Nat.le_refl _) _
 have T0:CellsAt W0 w.heap.size [.string t,.slice ra ss.length rc]:=by rw [hW0];exact CellsAt.new w _ _
 have hz00:W0.heap.size=w.heap.size+1:=by rw [hW0];simp
 obtain ⟨W,hW⟩:∃W,W=W0.alloc (.cells #[.string ⟨#[]⟩,.slice none 0 0] 66):=⟨_,rfl⟩
 have h01:Below W0.heap.size W0 W:=by rw [hW];exact (Below.refl _ _).alloc (Nat.le_refl _) _
 have R1:CellsAt W W0.heap.size [.string ⟨#[]⟩,.slice none 0 0]:=by rw [hW];exact CellsAt.new W0 _ _
 have T1:=T0.below h01
 have hB1:Below w.heap.size w W:=h00.trans (h01.mono h00.size)
 have hz1':W0.heap.size<W.heap.size:=R1.lt
 obtain ⟨B,hB⟩:∃B,B=W0.heap.size:=⟨_,rfl⟩
 have hBw:w.heap.size<B:=by omega
 rw [←hB] at R1 hz1'
 have hwW:w.heap.size<W.heap.size:=by omega
 have HW0:Hid _:=hW0
 have HW:Hid _:=hW
 have HZ:Hid (w.heap.size+1=B):=by show _=_;omega
 obtain ⟨t0,_⟩:=T1 0 _ rfl
 obtain ⟨t1,_⟩:=T1 1 _ rfl
 have hAl:Below W.heap.size W (W.alloc (.cells #[] 9)):=(Below.refl _ _).alloc (Nat.le_refl _) _
 have oA:(W.alloc (.cells #[] 9)).drew.ownsRow (B+1) 9 1 (.slice (some ⟨W.heap.size,0,none⟩) 0 0) 0 (([]:List ByteArray).map Value.string):=World.ownsRow_lit W #[] 0 (by omega) (by unfold maxLen;omega) rfl
 have rA:=(SRow.below hr (hB1.trans (hAl.drew.mono hB1.size))).cellsO
 have q0:(W.alloc (.cells #[] 9)).cell? ⟨w.heap.size,0,none⟩=some (.string t):=(hAl.cell (p:=⟨w.heap.size,0,none⟩) hwW).trans t0
 have q1:(W.alloc (.cells #[] 9)).cell? ⟨w.heap.size,1,none⟩=some (.slice ra ss.length rc):=(hAl.cell (p:=⟨w.heap.size,1,none⟩) hwW).trans t1
 have HR:Hid _:=R1
 have HB1:Hid _:=hB1
 clear hW0 hW hB h00 h01 T0 R1 T1 hB1 hz00
 go_enter Tryz.func73,Tryz.ntmps73
 go_upto_region 1 with fail
 rw [←HW0.out,←HW.out,HZ.out]
 clear HW0 HW HZ
 go_region_law (first
  |(refine step_append_rowO (W.alloc (.cells #[] 9)).drew rfl (.tmp 5) (.tmp 7) 22 rfl (B+1) 9 i0 (.string ⟨#[]⟩) 16 Tryz.underlying22 hi hz0 hz1 hz2 rfl W.heap.size 0 0 [] rfl oA ra ss.length rc ss rfl rfl hnil rA (by unfold maxLen;omega) (by omega) (by simp;omega) ?_;intro k8 cap8 w8 ho8 hg8 hat8 hlt8;simp only [Nat.zero_add,List.nil_append] at ho8;have b8:Below W.heap.size W w8:=hAl.drew.grown hg8 (by simp) (fun j hj=>by cases hj;exact Nat.le_refl _);have Z8:=CellsAt.below HR.out b8;obtain ⟨y0,f0⟩:=Z8 0 _ rfl;obtain ⟨y1,f1⟩:=Z8 1 _ rfl;have p0:=(b8.cell (p:=⟨w.heap.size,0,none⟩) hwW).trans t0;have p1:=(b8.cell (p:=⟨w.heap.size,1,none⟩) hwW).trans t1))
 all_goals
  have HO:Hid (w8.ownsRow (B+1) 9 1 (.slice (some ⟨k8,0,none⟩) ss.length cap8) ss.length (ss.map Value.string)):=ho8
  have HF:Hid (Below w.heap.size w w8):=HB1.out.trans (b8.mono HB1.out.size)
  clear ho8 hg8 hat8 b8 oA rA q0 q1
  go_wp2
  refine bodyPost_ret (v:=.agg #[.string t,.slice (some ⟨k8,0,none⟩) ss.length cap8]) (by simp [results,Tryz.results73,go_sem, *]) rfl ?_
  refine ⟨_,_,rfl,?_,?_⟩
  ·exact (ownsRow_setCell_below (ownsRow_setCell_below HO.out (a:=⟨B,0,none⟩) (Nat.lt_succ_self B) _) (a:=⟨B,1,none⟩) (Nat.lt_succ_self B) _).mono (by omega)
  ·exact (HF.out.setCell (p:=⟨B,0,none⟩) (Nat.le_of_lt hBw) _).setCell (p:=⟨B,1,none⟩) (Nat.le_of_lt hBw) _
end Go.Proofs.YtpekbmegopfhfaaGreatDoor
