import Derived.Test.YtpekbmegopfhfaaGreatDoorK16
set_option maxRecDepth 100000
set_option maxHeartbeats 16000000
namespace Go.Proofs.YtpekbmegopfhfaaGreatDoor
open Go.ChangeShapes Go.WideShapes Go.ChangeAt Go.RowKit _root_.Go.Proofs.Tryz
theorem Ce {P:Program} (w:World) {ops:Array Oper} {o:Oper} {a:Act} {K:Act->World->Prop} {Q:Exit->Act->World->Prop} {E:Prop} (zI:o.guard=none) (sl x:Operand) (t:TypeId)
 (ho:o.op=.call {callee:=.builtin .append,args:= #[sl,x],argTypes:= #[t,t]})
 (base:Nat) (e:TypeId) (i:TypeInfo) (z:Value) (bytes:Nat) (ht:P.underlying t=some (.slice e)) (hi:P.info? e=some i) (hz:i.zero=some z)
 (zF:i.size=1) (zJ:i.bytes=bytes) (zH:z.cells.size=1)
 (q n c0:Nat) (ss:List ByteArray) (hs:a.eval sl=.slice (some ⟨q,0,none⟩) n c0) (zG:w.ownsRow base e 1 (.slice (some ⟨q,0,none⟩) n c0) n (ss.map Value.string))
 (ad:Addr) (m c:Nat) (tt:List ByteArray) (hx:a.eval x=.slice (some ad) m c) (hl:tt.length=m) (zB:∀j s,tt[j]?=some s->w.cell? (ad.add j)=some (.string s))
 (zK:n+m<=maxLen) (zA:(n+m) *bytes<=140737488355328) (zE:base<=w.heap.size)
 (h:∀g cap w',w'.ownsRow base e 1 (.slice (some ⟨g,0,none⟩) (n+m) cap) (n+m) ((ss++tt).map Value.string)->w.grownBy w' (some q)->(g=q∨g=w.heap.size)->g<w'.heap.size->K (a.put o.dst (.slice (some ⟨g,0,none⟩) (n+m) cap)) w'):
 if Region.wanted o (yielded ops a.tmps)=true then Oper.wp P o a w K Q else E:=by
 have hw:Region.wanted o (yielded ops a.tmps)=true:=by simp[Region.wanted,zI]
 rw[if_pos hw];obtain⟨v',w',hr,h2,h3,h4,h5⟩:=run_append_own_at (P:=P) w base t o.type e i z 1 bytes ht hi hz zF zJ zH (by decide) _ n _ zG ad m c (tt.map Value.string) (by simp[hl])
  (fun j u hu=>by
    rw[List.getElem?_map] at hu;cases hs:tt[j]? with
    |none=>rw[hs] at hu;cases hu
    |some s=>rw[hs] at hu;cases hu;exact zB j s hs)
  (fun u hu=>by obtain⟨s,_,rfl⟩:=List.mem_map.1 hu;rfl) zK zA zE
 have zC:∃g cap,v'=.slice (some ⟨g,0,none⟩) (n+m) cap:=by
  rcases Joins.ownsRow_forms h2 with⟨e1,_⟩|hf
  ·have:=(h4.1 e1).1
   cases this
  ·exact hf
 obtain⟨g,cap,rfl⟩:=zC;unfold Oper.wp execOp;simp only[ho,resolve,invoke,builtin,Sem.run_bind,Sem.run_pure,Result.andThen_ok,List.map_toArray,List.map_cons,List.map_nil,hs,hx,hr];refine h g cap w' (by rw[List.map_append];exact h2) h3 ?_ (h2.lt g rfl).2;rcases h5 with h5|h5
 ·left;simpa [Value.ownBlock] using h5
 ·right;simpa [Value.ownBlock] using h5
theorem By {P:Program} (w:World) {ops:Array Oper} {o:Oper} {a:Act} {K:Act->World->Prop} {Q:Exit->Act->World->Prop} {E:Prop} (zH:o.guard=none) (sl x:Operand) (t:TypeId)
 (ho:o.op=.call {callee:=.builtin .append,args:= #[sl,x],argTypes:= #[t,t]})
 (base:Nat) (e:TypeId) (i:TypeInfo) (z:Value) (bytes:Nat) (ht:P.underlying t=some (.slice e)) (hi:P.info? e=some i) (hz:i.zero=some z)
 (zF:i.size=1) (zK:i.bytes=bytes) (zI:z.cells.size=1)
 (q n c0:Nat) (ss:List ByteArray) (hs:a.eval sl=.slice (some ⟨q,0,none⟩) n c0) (zA:w.ownsRow base e 1 (.slice (some ⟨q,0,none⟩) n c0) n (ss.map Value.string))
 (ad:Option Addr) (m c:Nat) (tt:List ByteArray) (hx:a.eval x=.slice ad m c) (hl:tt.length=m) (zG:ad=none->m=0/\c=0) (zC:∀A,ad=some A->∀j s,tt[j]?=some s->w.cell? (A.add j)=some (.string s))
 (zM:n+m<=maxLen) (zB:(n+m) *bytes<=140737488355328) (zE:base<=w.heap.size)
 (h:∀g cap w',w'.ownsRow base e 1 (.slice (some ⟨g,0,none⟩) (n+m) cap) (n+m) ((ss++tt).map Value.string)->w.grownBy w' (some q)->(g=q∨g=w.heap.size)->g<w'.heap.size->K (a.put o.dst (.slice (some ⟨g,0,none⟩) (n+m) cap)) w'):
 if Region.wanted o (yielded ops a.tmps)=true then Oper.wp P o a w K Q else E:=by
 cases ad with
 |some A=>exact Ce w zH sl x t ho base e i z bytes ht hi hz zF zK zI q n c0 ss hs zA A m c tt hx hl (zC A rfl) zM zB zE h
 |none=>
  obtain⟨rfl,rfl⟩:=zG rfl;have zJ:=List.eq_nil_of_length_eq_zero hl;subst zJ;have hw:Region.wanted o (yielded ops a.tmps)=true:=by simp[Region.wanted,zH]
  rw[if_pos hw];have hr:=run_append_owned_none (P:=P) w base t o.type e i 1 ht hi _ n _ zA;unfold Oper.wp execOp;simp only[ho,resolve,invoke,builtin,Sem.run_bind,Sem.run_pure,Result.andThen_ok,List.map_toArray,List.map_cons,List.map_nil,hs,hx,hr];exact h q c0 w (by simpa using zA) ⟨rfl,rfl,rfl,XB,fun _ _ _=>rfl⟩ (.inl rfl) (zA.lt q rfl).2
theorem Ae.cellsO {w:World} {B:Nat} {a:Option Addr} {ss:List ByteArray} (h:Ae w B a ss):∀A,a=some A->∀j s,ss[j]?=some s->w.cell? (A.add j)=some (.string s):=by
 rintro A rfl j s hs;rcases h with h|⟨b,off,h1,_,h3⟩
 ·subst h;simp at hs
 ·cases h1
  have:=h3 j s hs;rw[Go.WideShapes.add_plain];exact this
theorem NM (t:ByteArray) (ra:Option Addr) (rc:Nat) (ss:List ByteArray) (w:World) (hr:Ae w w.heap.size ra ss) (zK:ra=none->ss.length=0/\rc=0) (hl:ss.length<=100000):
 Calls prog 73 #[.agg #[.string t,.slice ra ss.length rc]] w fun e w'=>∃g c,e=.returned (.agg #[.string t,.slice (some ⟨g,0,none⟩) ss.length c])/\
  w'.ownsRow w.heap.size 9 1 (.slice (some ⟨g,0,none⟩) ss.length c) ss.length (ss.map Value.string)/\Xz w w':=by
 obtain⟨i0,hi,zV,zT,zW⟩:=info_parts CO;obtain⟨W0,zA⟩:∃W0,W0=w.alloc (.cells #[.string t,.slice ra ss.length rc] 66):=⟨_,rfl⟩;have zI:=(Aq zA).1;have T0:=(Aq zA).2.2;have zH:=(Aq zA).2.1;obtain⟨W,hW⟩:∃W,W=W0.alloc (.cells #[XM,XN] 66):=⟨_,rfl⟩;have zN:=(Aq hW).1;have R1:=(Aq hW).2.2;have T1:=T0.below zN;have zF:Below w.heap.size w W:=zI.trans (zN.mono zI.size)
 have zJ:W0.heap.size<W.heap.size:=R1.lt;obtain⟨B,hB⟩:∃B,B=W0.heap.size:=⟨_,rfl⟩;have zO:w.heap.size<B:=by omega
 rw[←hB] at R1 zJ;have zC:w.heap.size<W.heap.size:=by omega
 have zS:Hid _:=zA;have HW:Hid _:=hW;have HZ:Hid (w.heap.size+1=B):=by show _=_;omega
 obtain⟨t0,t1⟩:=Aa.c2 T1 0 1;have zE:Below W.heap.size W (W.alloc (.cells #[] 9)):=XA;have oA:(W.alloc (.cells #[] 9)).drew.ownsRow (B+1) 9 1 (.slice (some ⟨W.heap.size,0,none⟩) 0 0) 0 (([]:List ByteArray).map Value.string):=World.ownsRow_lit W #[] 0 (by omega) (by unfold maxLen;omega) rfl;have rA:=(Ae.below hr (zF.trans (zE.drew.mono zF.size))).cellsO
 have q0:(W.alloc (.cells #[] 9)).cell? (XL (w.heap.size) 0)=some (.string t):=(zE.cell (p:=⟨w.heap.size,0,none⟩) zC).trans t0;have q1:(W.alloc (.cells #[] 9)).cell? (XL (w.heap.size) 1)=some (.slice ra ss.length rc):=(zE.cell (p:=⟨w.heap.size,1,none⟩) zC).trans t1;have HR:Hid _:=R1;have zR:Hid _:=zF;clear zA hW hB zI zN T0 R1 T1 zF zH;go_enter func73,ntmps73;go_upto_region 1 with fail
 rw[←zS.o,←HW.o,HZ.o];clear zS HW HZ
 go_region_law (first
  |(refine By (W.alloc (.cells #[] 9)).drew rfl (.tmp 5) (.tmp 7) 22 rfl (B+1) 9 i0 XM 16 underlying22 hi zV zT zW rfl W.heap.size 0 0 [] rfl oA ra ss.length rc ss rfl rfl zK rA (by unfold maxLen;omega) (by omega) (by simp;omega) ?_;intro k8 zB w8 zM zP zG zU;simp only[Nat.zero_add,List.nil_append] at zM;have b8:Below W.heap.size W w8:=zE.drew.grown zP (by simp) (fun j hj=>by cases hj;exact XB);have Z8:=Aa.below HR.o b8;obtain⟨y0,f0⟩:=Z8 0 _ rfl;obtain⟨y1,f1⟩:=Z8 1 _ rfl;have p0:=(b8.cell (p:=⟨w.heap.size,0,none⟩) zC).trans t0;have p1:=(b8.cell (p:=⟨w.heap.size,1,none⟩) zC).trans t1))
 all_goals
  have HO:Hid (w8.ownsRow (B+1) 9 1 (.slice (some ⟨k8,0,none⟩) ss.length zB) ss.length (ss.map Value.string)):=zM;have HF:Hid (Xz w w8):=zR.o.trans (b8.mono zR.o.size);clear zM zP zG b8 oA rA q0 q1;go_wp2;refine bodyPost_ret (v:=.agg #[.string t,.slice (some ⟨k8,0,none⟩) ss.length zB]) (by simp[results,results73,go_sem, *]) rfl ?_;refine⟨_,_,rfl,?_,?_⟩
  ·exact(ownsRow_setCell_below (ownsRow_setCell_below HO.o (a:=⟨B,0,none⟩) (Nat.lt_succ_self B) _) (a:=⟨B,1,none⟩) (Nat.lt_succ_self B) _).mono (by omega)
  ·exact(HF.o.setCell (p:=⟨B,0,none⟩) (Nat.le_of_lt zO) _).setCell (p:=⟨B,1,none⟩) (Nat.le_of_lt zO) _
end Go.Proofs.YtpekbmegopfhfaaGreatDoor
