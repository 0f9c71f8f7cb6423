import Derived.Test.YtpekbmegopfhfaaGreatDoorW12
import Derived.Test.YtpekbmegopfhfaaGreatDoorW13
import Derived.Test.YtpekbmegopfhfaaGreatDoorW15
import Derived.Test.YtpekbmegopfhfaaGreatDoorW16
import Derived.Test.YtpekbmegopfhfaaGreatDoorW17
namespace Go.Proofs.YtpekbmegopfhfaaGreatDoor
open Go.ChangeShapes Go.WideShapes Go.ChangeAt Go.RowKit
def LeaseTo (w w':World) (e:Ending) (wd now given births:Int) (T P L:Value) (ls:List Ld) (s:ByteArray) (hold:Int) (base:Nat):Prop:=
 Tn L.ownBlock.toList w w'/\(((200<=ls.length∨1000000000<=given)/\e=.returned (.agg #[.int .i64 4,.int .i64 0,.int .i64 0,.int .i64 0,.int .i64 0,.slice none 0 0,.slice none 0 0,.slice none 0 0,.string ⟨#[]⟩,.int .i64 0,.string ⟨#[]⟩,.string ⟨#[]⟩]))∨
  ((ls.length<200/\given<1000000000)/\∃g c,e=.returned (.agg #[.int .i64 0,.int .i64 wd,.int .i64 now,.int .i64 (given+1),.int .i64 births,T,P,.slice (some ⟨g,0,none⟩) (ls.length+1) c,.string ⟨#[]⟩,.int .i64 (given+1),.string ⟨#[]⟩,.string ⟨#[]⟩])/\w'.ownsRow base 137 3 (.slice (some ⟨g,0,none⟩) (ls.length+1) c) (ls++[(⟨given+1,s,now+hold⟩:Ld)]).length (rowC lC (ls++[(⟨given+1,s,now+hold⟩:Ld)]))/\(L.ownBlock=some g∨w.heap.size<=g)))
set_option maxRecDepth 20000 in
set_option maxHeartbeats 4000000 in
theorem l4Lease_any (wd now given births:Int) (ta pa la:Option Addr) (tn tc pn pc lc base:Nat) (ls:List Ld) (s:ByteArray) (hold:Int) (w:World) (ho:w.ownsRow base 137 3 (.slice la ls.length lc) ls.length (rowC lC ls)) (hbase:base<=w.heap.size) (hl:ls.length<=1000) (hg0:0<=given) (hg1:given<=1000000000) (hn0:0<=now) (hn1:now<=1000000000) (ht0:0<=hold) (ht1:hold<=1000000000):
 Calls Tryz.prog 88 #[.agg #[.int .i64 wd,.int .i64 now,.int .i64 given,.int .i64 births,.slice ta tn tc,.slice pa pn pc,.slice la ls.length lc],.string s,.int .i64 hold] w fun e w'=>LeaseTo w w' e wd now given births (.slice ta tn tc) (.slice pa pn pc) (.slice la ls.length lc) ls s hold base:=by
 obtain ⟨W,hW⟩:∃W,W=(w.alloc (.cells #[.int .i64 wd,.int .i64 now,.int .i64 given,.int .i64 births,.slice ta tn tc,.slice pa pn pc,.slice la ls.length lc] 28)).alloc (.cells #[.int .i64 0,.int .i64 0,.int .i64 0,.int .i64 0,.int .i64 0,.slice none 0 0,.slice none 0 0,.slice none 0 0,.string ⟨#[]⟩,.int .i64 0,.string ⟨#[]⟩,.string ⟨#[]⟩] 30):=⟨_,rfl⟩
 have bW:Below w.heap.size w W:=by rw [hW];exact ((Below.refl _ _).alloc (Nat.le_refl _) _).alloc (by simp) _
 have hzW:W.heap.size=w.heap.size+2:=by rw [hW];simp
 have x0:CellsAt W w.heap.size [.int .i64 wd,.int .i64 now,.int .i64 given,.int .i64 births,.slice ta tn tc,.slice pa pn pc,.slice la ls.length lc]:=by
  have h1:=CellsAt.new w [.int .i64 wd,.int .i64 now,.int .i64 given,.int .i64 births,.slice ta tn tc,.slice pa pn pc,.slice la ls.length lc] 28
  rw [hW]
  exact CellsAt.below h1 ((Below.refl _ _).alloc (Nat.le_refl _) _)
 have x1:CellsAt W (w.heap.size+1) z12:=by
  have h1:=CellsAt.new (w.alloc (.cells #[.int .i64 wd,.int .i64 now,.int .i64 given,.int .i64 births,.slice ta tn tc,.slice pa pn pc,.slice la ls.length lc] 28)) z12 30
  rw [World.size_alloc] at h1
  rw [hW]
  exact h1
 have HW:Hid _:=hW
 have HB:Hid (Below w.heap.size w W):=bW
 by_cases hfull:200<=ls.length∨1000000000<=given
 ·obtain ⟨⟨y0,q0⟩,⟨y1,q1⟩,⟨y2,q2⟩,⟨y3,q3⟩,⟨y4,q4⟩,⟨y5,q5⟩,⟨y6,q6⟩,⟨y7,q7⟩,⟨y8,q8⟩,⟨y9,q9⟩,⟨y10,q10⟩,y11,q11⟩:=z12at x1
  obtain ⟨v0,v1,v2,v3,v4,v5,v6,v7⟩:=sbox_of x0
  have HF:Hid (200<=ls.length∨1000000000<=given):=hfull
  have hb1:(decide ((200:Int)<=(ls.length:Int))=true)∨(decide ((200:Int)<=(ls.length:Int))=false/\decide ((1000000000:Int)<=given)=true):=by
   by_cases h:200<=ls.length
   ·left;simp;omega
   ·right
    refine ⟨by simp;omega,?_⟩
    rcases hfull with h'|h'
    ·exact absurd h' h
    ·simpa using h'
  clear hW x0 x1 bW hzW hfull ho
  rcases hb1 with hb1|⟨hb1,hb2⟩
  all_goals
   go_enter Tryz.func88,Tryz.ntmps88
   go_upto_region 1 with fail
   rw [←HW.out]
   clear HW
   go_wp2
   refine bodyPost_ret (v:=.agg #[.int .i64 4,.int .i64 0,.int .i64 0,.int .i64 0,.int .i64 0,.slice none 0 0,.slice none 0 0,.slice none 0 0,.string ⟨#[]⟩,.int .i64 0,.string ⟨#[]⟩,.string ⟨#[]⟩]) (by simp [results,Tryz.results88,go_sem,y0,y1,y2,y3,y4,y5,y6,y7,y8,y9,y10,y11]) rfl ?_
   exact ⟨Tn.of (HB.out.trans (Tn.below (tn12 W (w.heap.size+1) _ _ _ _ _ _ _ _ _ _ _ _) HB.out.size (by intro v hv;simp at hv;omega))),.inl ⟨HF.out,rfl⟩⟩
 ·have hf1:ls.length<200/\given<1000000000:=by omega
  obtain ⟨X,hX⟩:∃X,X=W.setCell ⟨w.heap.size,2,none⟩ (.int .i64 (given+1)):=⟨_,rfl⟩
  have tX:Tn [w.heap.size] W X:=by rw [hX];exact tn1 _ _ _ _
  have u0:CellsAt X w.heap.size [.int .i64 wd,.int .i64 now,.int .i64 (given+1),.int .i64 births,.slice ta tn tc,.slice pa pn pc,.slice la ls.length lc]:=by rw [hX];exact x0.set 2 _
  have u1:CellsAt X (w.heap.size+1) z12:=CellsAt.same x1 (tX.block _ (by omega) (by simp))
  have hbX:Below w.heap.size w X:=bW.trans (tX.below bW.size (by simp))
  have hlo:∀g,(Value.slice la ls.length lc).ownBlock=some g->g<w.heap.size:=fun g hg=>(own_lt ho hg).2
  have hoX:X.ownsRow base 137 3 (.slice la ls.length lc) ls.length (rowC lC ls):=own_below ho hbX
  have hzX:w.heap.size+2<=X.heap.size:=by have:=tX.size;omega
  obtain ⟨g,c,w8,hr8,ho8,hg8,hk8⟩:=lpush X base _ ls hoX (⟨given+1,s,now+hold⟩:Ld) (by omega) (by omega) 26
  dsimp only at hr8
  have e0:CellsAt w8 w.heap.size [.int .i64 wd,.int .i64 now,.int .i64 (given+1),.int .i64 births,.slice ta tn tc,.slice pa pn pc,.slice la ls.length lc]:=CellsAt.same u0 (hg8.block _ u0.lt (fun e=>by have:=hlo _ e.symm;omega))
  have e1:CellsAt w8 (w.heap.size+1) z12:=CellsAt.same u1 (hg8.block _ (by omega) (fun e=>by have:=hlo _ e.symm;omega))
  obtain ⟨c2,f2⟩:=x0 2 _ rfl
  obtain ⟨c6,_⟩:=x0 6 _ rfl
  obtain ⟨d1,_⟩:=u0 1 _ rfl
  obtain ⟨d2,_⟩:=u0 2 _ rfl
  obtain ⟨d6,_⟩:=u0 6 _ rfl
  obtain ⟨i0,i1,i2,i3,i4,i5,i6,i7⟩:=sbox_of e0
  obtain ⟨⟨y0,q0⟩,⟨y1,q1⟩,⟨y2,q2⟩,⟨y3,q3⟩,⟨y4,q4⟩,⟨y5,q5⟩,⟨y6,q6⟩,⟨y7,q7⟩,⟨y8,q8⟩,⟨y9,q9⟩,⟨y10,q10⟩,y11,q11⟩:=z12at e1
  have k6:=(e0 6 _ rfl).2
  have hwr:IntKind.i64.wrap (now+hold)=now+hold:=wrap_sum hn0 hn1 ht0 ht1
  have hq1:¬((200:Int)<=(ls.length:Int)):=by omega
  have hq2:¬((1000000000:Int)<=given):=by omega
  have HXe:Hid _:=hX
  have H8:Hid (w8.ownsRow base 137 3 (.slice (some ⟨g,0,none⟩) (ls.length+1) c) (ls++[(⟨given+1,s,now+hold⟩:Ld)]).length (rowC lC (ls++[(⟨given+1,s,now+hold⟩:Ld)]))/\X.grownBy w8 (Value.slice la ls.length lc).ownBlock/\((Value.slice la ls.length lc).ownBlock=some g∨g=X.heap.size+1)):=⟨ho8,hg8,hk8⟩
  have HBX:Hid (Below w.heap.size w X):=hbX
  have HLo:Hid (∀g,(Value.slice la ls.length lc).ownBlock=some g->g<w.heap.size):=hlo
  have HF1:Hid (ls.length<200/\given<1000000000):=hf1
  clear hW hX x0 x1 u0 u1 tX e0 e1 bW hzW hoX ho ho8 hg8 hk8 hbX hlo hfull
  go_enter Tryz.func88,Tryz.ntmps88
  go_upto_region 1 with fail
  rw [←HW.out]
  clear HW
  go_upto_region 4 with fail
  rw [←HXe.out]
  clear HXe c2 f2 c6
  go_wp2_with (at_builtin;refine wpList_append_run rfl _ _ 26 26 rfl rfl rfl hr8 ?_)
  clear hr8 d1 d2 d6
  go_wp2
  refine bodyPost_ret (v:=.agg #[.int .i64 0,.int .i64 wd,.int .i64 now,.int .i64 (given+1),.int .i64 births,.slice ta tn tc,.slice pa pn pc,.slice (some ⟨g,0,none⟩) (ls.length+1) c,.string ⟨#[]⟩,.int .i64 (given+1),.string ⟨#[]⟩,.string ⟨#[]⟩]) (by simp [results,Tryz.results88,go_sem,y0,y1,y2,y3,y4,y5,y6,y7,y8,y9,y10,y11]) rfl ?_
  have T':=(Tn.set (V:=[w.heap.size,w.heap.size+1]) w8 w.heap.size 6 (.slice (some ⟨g,0,none⟩) (ls.length+1) c) (by simp)).trans (Tn.mono (tn12 (w8.setCell ⟨w.heap.size,6,none⟩ (.slice (some ⟨g,0,none⟩) (ls.length+1) c)) (w.heap.size+1) (.int .i64 0) (.int .i64 wd) (.int .i64 now) (.int .i64 (given+1)) (.int .i64 births) (.slice ta tn tc) (.slice pa pn pc) (.slice (some ⟨g,0,none⟩) (ls.length+1) c) (.string ⟨#[]⟩) (.int .i64 (given+1)) (.string ⟨#[]⟩) (.string ⟨#[]⟩)) (by simp))
  have t8:Tn (Value.slice la ls.length lc).ownBlock.toList w w8:=(Tn.of HBX.out).trans (tn_grown H8.out.2.1)
  have hgb:g<w.heap.size∨w.heap.size+2<=g:=by
   rcases H8.out.2.2 with e|e
   ·exact .inl (HLo.out g e)
   ·exact .inr (by omega)
  refine ⟨⟨T'.os.trans t8.os,T'.tape.trans t8.tape,T'.output.trans t8.output,Nat.le_trans t8.size T'.size,fun b hb hv=>(T'.block b (Nat.lt_of_lt_of_le hb t8.size) (by simp;omega)).trans (t8.block b hb hv)⟩,.inr ⟨HF1.out,g,c,rfl,own_same H8.out.1 (fun q hq=>T'.block q (own_lt H8.out.1 hq).2 ?_),?_⟩⟩
  ·obtain rfl:g=q:=by simpa [Value.ownBlock] using hq
   simp
   omega
  ·rcases H8.out.2.2 with e|e
   ·exact .inl e
   ·exact .inr (by omega)
end Go.Proofs.YtpekbmegopfhfaaGreatDoor
namespace Go.Proofs.YtpekbmegopfhfaaGreatDoor
open Go.ChangeShapes Go.WideShapes Go.ChangeAt Go.RowKit
theorem zpush (w:World) (base:Nat) (v:Value) (zs:List (Kd×Value)) (ho:w.ownsRow base 114 4 v zs.length (rowC kC zs)) (z:Kd×Value) (hz:∃a n c,z.2=.slice a n c) (hn:zs.length<=1000000) (hbase:base<=w.heap.size) (ty:TypeId):
 ∃g cap w',(Builtin.append_ #[24,24] ty #[v,.slice (some ⟨w.heap.size,0,none⟩) 1 1]).run Tryz.prog (w.alloc (.cells #[.string z.1.sum,.int .i64 z.1.born,.string z.1.text,z.2] 114))=.ok (.slice (some ⟨g,0,none⟩) (zs.length+1) cap) w'/\w'.ownsRow base 114 4 (.slice (some ⟨g,0,none⟩) (zs.length+1) cap) (zs++[z]).length (rowC kC (zs++[z]))/\w.grownBy w' v.ownBlock/\(v.ownBlock=some g∨g=w.heap.size+1):=by
 obtain ⟨i0,hi,hz0,hz1,hz2⟩:=info_parts Tryz.infoKept
 have ho':=own_below ho ((Below.refl _ _).alloc (Nat.le_refl _) (.cells #[.string z.1.sum,.int .i64 z.1.born,.string z.1.text,z.2] 114))
 have hc:∀j u,(rowC kC [z])[j]?=some u->(w.alloc (.cells #[.string z.1.sum,.int .i64 z.1.born,.string z.1.text,z.2] 114)).cell? ((⟨w.heap.size,0,none⟩:Addr).add j)=some u:=by
  intro j u hu
  rw [Go.WideShapes.add_plain,Nat.zero_add]
  exact (CellsAt.new w [.string z.1.sum,.int .i64 z.1.born,.string z.1.text,z.2] 114 j u (by simpa [rowC,kC] using hu)).1
 obtain ⟨v',w',hr,h2,h3,_,h5⟩:=run_append_own_at (P:=Tryz.prog) (w.alloc (.cells #[.string z.1.sum,.int .i64 z.1.born,.string z.1.text,z.2] 114)) base 24 ty 114 i0 _ 4 64 Tryz.underlying24 hi hz0 hz1 hz2 rfl (by decide) v zs.length (rowC kC zs) ho' ⟨w.heap.size,0,none⟩ 1 1 (rowC kC [z]) (by simp [rowC,kC]) hc (by intro u hu;obtain ⟨a,n,c,e⟩:=hz;simp [rowC,kC,e] at hu;rcases hu with rfl|rfl|rfl|rfl<;>rfl) (by unfold maxLen;omega) (by omega) (by simp;omega)
 obtain ⟨g,cap,rfl,_,_⟩:=own_form h2 (fun e=>by subst e;rcases h2.2 with ⟨_,hn⟩|⟨_,_,_,e,_⟩<;>first|omega|cases e)
 refine ⟨g,cap,w',hr,?_,(World.grownBy_alloc w _ _).trans h3,?_⟩
 ·rw [rowC_append,List.length_append]
  exact h2
 ·rcases h5 with h5|h5
  ·exact .inl h5.symm
  ·right
   simpa [Value.ownBlock] using h5
def zD (zs:List (Kd×Value)) (s:ByteArray):Bool:= !(zs.all (fun z=>less z.1.sum s))
def zQ (zs:List (Kd×Value)) (one:Kd×Value):List (Kd×Value):=zs.filter (fun z=>less z.1.sum one.1.sum)++(if zD zs one.1.sum then [one] else [])++zs.filter (fun z=> !(less z.1.sum one.1.sum))
def insZ (zs:List (Kd×Value)) (one:Kd×Value):List (Kd×Value):=zs.filter (fun z=>less z.1.sum one.1.sum)++[one]++zs.filter (fun z=> !(less z.1.sum one.1.sum))
theorem insZ_map (zs:List (Kd×Value)) (one:Kd×Value):(insZ zs one).map (·.1)=insK (zs.map (·.1)) one.1:=by
 unfold insZ insK
 rw [List.map_append,List.map_append,List.filter_map,List.filter_map]
 rfl
theorem insZ_mem {zs:List (Kd×Value)} {one z:Kd×Value} (h:z∈insZ zs one):z∈zs∨z=one:=by
 unfold insZ at h
 simp only [List.mem_append,List.mem_filter,List.mem_singleton] at h
 rcases h with (h|h)|h
 ·exact .inl h.1
 ·exact .inr h
 ·exact .inl h.1
theorem zD_snoc {zs:List (Kd×Value)} {k:Nat} {x:Kd×Value} (s:ByteArray) (hx:zs[k]?=some x):zD (zs.take (k+1)) s=(zD (zs.take k) s|| !(less x.1.sum s)):=by
 obtain ⟨hlt,rfl⟩:=List.getElem?_eq_some_iff.1 hx
 unfold zD
 rw [List.take_succ_eq_append_getElem hlt,List.all_append]
 simp
theorem zQ_above {zs:List (Kd×Value)} {s:ByteArray} (h:zD zs s=false):zs.filter (fun z=> !(less z.1.sum s))=[]:=by
 rw [List.filter_eq_nil_iff]
 intro x hx
 have:less x.1.sum s=true:=by
  unfold zD at h
  simp only [Bool.not_eq_false'] at h
  exact List.all_eq_true.1 h x hx
 simp [this]
theorem zQ_early {zs:List (Kd×Value)} {k:Nat} {x:Kd×Value} (one:Kd×Value) (hx:zs[k]?=some x) (hd:zD (zs.take k) one.1.sum=false) (hl:less x.1.sum one.1.sum=true):zQ (zs.take (k+1)) one=zQ (zs.take k) one++[x]:=by
 have h1:=zD_snoc one.1.sum hx
 rw [hd,hl] at h1
 unfold zQ
 rw [zQ_above hd,zQ_above (by rw [h1];rfl),h1,hd]
 obtain ⟨hlt,rfl⟩:=List.getElem?_eq_some_iff.1 hx
 rw [List.take_succ_eq_append_getElem hlt,List.filter_append]
 simp [hl]
theorem zQ_at {zs:List (Kd×Value)} {k:Nat} {x:Kd×Value} (one:Kd×Value) (hx:zs[k]?=some x) (hd:zD (zs.take k) one.1.sum=false) (hl:less x.1.sum one.1.sum=false):zQ (zs.take (k+1)) one=zQ (zs.take k) one++[one]++[x]:=by
 have h1:=zD_snoc one.1.sum hx
 rw [hd,hl] at h1
 have ha:=zQ_above hd
 unfold zQ
 rw [ha,h1,hd]
 obtain ⟨hlt,rfl⟩:=List.getElem?_eq_some_iff.1 hx
 rw [List.take_succ_eq_append_getElem hlt,List.filter_append,List.filter_append,ha]
 simp [hl]
theorem zQ_late {zs:List (Kd×Value)} {k:Nat} {x:Kd×Value} (one:Kd×Value) (hsort:(zs.map (·.1.sum)).Pairwise (fun a b=>less a b=true)) (hx:zs[k]?=some x) (hd:zD (zs.take k) one.1.sum=true):zQ (zs.take (k+1)) one=zQ (zs.take k) one++[x]:=by
 have h1:=zD_snoc one.1.sum hx
 rw [hd,Bool.true_or] at h1
 obtain ⟨hlt,rfl⟩:=List.getElem?_eq_some_iff.1 hx
 obtain ⟨y,hy,hyn⟩:∃y∈zs.take k,less y.1.sum one.1.sum=false:=by
  unfold zD at hd
  simpa using hd
 obtain ⟨j,hj⟩:=List.getElem?_of_mem hy
 obtain ⟨hjl,e⟩:=List.getElem?_eq_some_iff.1 hj
 rw [List.length_take] at hjl
 rw [List.getElem_take] at e
 have hlt2:=List.pairwise_iff_getElem.1 hsort j k (by simp;omega) (by simpa using hlt) (by omega)
 rw [List.getElem_map,List.getElem_map,e] at hlt2
 have hl:less zs[k].1.sum one.1.sum=false:=by
  cases h:less zs[k].1.sum one.1.sum with
  |false=>rfl
  |true=>rw [less_trans hlt2 h] at hyn;cases hyn
 unfold zQ
 rw [h1,hd,List.take_succ_eq_append_getElem hlt,List.filter_append,List.filter_append]
 simp [hl]
theorem zQ_yes {zs:List (Kd×Value)} (one:Kd×Value) (hd:zD zs one.1.sum=true):zQ zs one=insZ zs one:=by
 unfold zQ insZ
 rw [hd]
 rfl
theorem zQ_no {zs:List (Kd×Value)} (one:Kd×Value) (hd:zD zs one.1.sum=false):zQ zs one++[one]=insZ zs one:=by
 unfold zQ insZ
 rw [hd,zQ_above hd]
 simp
theorem zQ_len (zs:List (Kd×Value)) (one:Kd×Value):(zQ zs one).length<=zs.length+1:=by
 have h:∀(l:List (Kd×Value)),(l.filter (fun z=>less z.1.sum one.1.sum)).length+(l.filter (fun z=> !(less z.1.sum one.1.sum))).length=l.length:=by
  intro l
  induction l with
  |nil=>rfl
  |cons y l ih=>cases hl:less y.1.sum one.1.sum<;>simp [hl]<;>omega
 have:=h zs
 unfold zQ
 rw [List.length_append,List.length_append]
 split<;>simp<;>omega
theorem find_ge {ks:List Kd} {s:ByteArray} (h:There ks s):∃(i:Nat) (k:Kd),findI ks s=(i:Int)/\ks[i]?=some k/\k.sum=s:=by
 rcases findI_cases ks s with ⟨_,hn⟩|⟨i,k,e,h1,h2⟩
 ·exact absurd h hn
 ·exact ⟨i,k,e,h1,h2⟩
theorem find_lt {ks:List Kd} {s:ByteArray} (h:¬There ks s):findI ks s<0:=by
 rcases findI_cases ks s with ⟨e,_⟩|⟨i,k,e,h1,h2⟩
 ·omega
 ·exact absurd ⟨k,List.mem_of_getElem? h1,h2⟩ h
end Go.Proofs.YtpekbmegopfhfaaGreatDoor
