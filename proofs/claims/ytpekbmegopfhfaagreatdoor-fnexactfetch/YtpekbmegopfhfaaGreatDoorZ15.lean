import Derived.Test.YtpekbmegopfhfaaGreatDoorZ14
set_option maxRecDepth 100000
set_option maxHeartbeats 16000000
namespace Go.Proofs.YtpekbmegopfhfaaGreatDoor
open Go.ChangeShapes Go.WideShapes Go.ChangeAt Go.RowKit _root_.Go.Proofs.Tryz
theorem zpush (w:World) (base:Nat) (v:Value) (zs:List (Kd×Value)) (ho:w.ownsRow base 114 4 v zs.length (rowC kC zs)) (z:Kd×Value) (hz:∃a n c,z.2=.slice a n c) (hn:zs.length<=1000000) (hbase:base<=w.heap.size) (ty:TypeId):
 ∃g cap w',(Builtin.append_ #[24,24] ty #[v,.slice (some ⟨w.heap.size,0,none⟩) 1 1]).run prog (w.alloc (.cells #[.string z.1.sum,.int .i64 z.1.born,.string z.1.text,z.2] 114))=.ok (.slice (some ⟨g,0,none⟩) (zs.length+1) cap) w'/\w'.ownsRow base 114 4 (.slice (some ⟨g,0,none⟩) (zs.length+1) cap) (zs++[z]).length (rowC kC (zs++[z]))/\w.grownBy w' v.ownBlock/\(v.ownBlock=some g∨g=w.heap.size+1):=by
 obtain⟨i0,hi,hz0,hz1,hz2⟩:=info_parts infoKept;have ho':=own_below ho ((Below.refl _ _).alloc (Nat.le_refl _) (.cells #[.string z.1.sum,.int .i64 z.1.born,.string z.1.text,z.2] 114));have hc:∀j u,(rowC kC [z])[j]?=some u->(w.alloc (.cells #[.string z.1.sum,.int .i64 z.1.born,.string z.1.text,z.2] 114)).cell? ((⟨w.heap.size,0,none⟩:Addr).add j)=some u:=by
  intro j u hu;rw[Go.WideShapes.add_plain,Nat.zero_add];exact(CellsAt.new w [.string z.1.sum,.int .i64 z.1.born,.string z.1.text,z.2] 114 j u (by simpa [rowC,kC] using hu)).1
 obtain⟨v',w',hr,h2,h3,_,h5⟩:=run_append_own_at (P:=prog) (w.alloc (.cells #[.string z.1.sum,.int .i64 z.1.born,.string z.1.text,z.2] 114)) base 24 ty 114 i0 _ 4 64 underlying24 hi hz0 hz1 hz2 rfl (by decide) v zs.length (rowC kC zs) ho' ⟨w.heap.size,0,none⟩ 1 1 (rowC kC [z]) (by simp[rowC,kC]) hc (by intro u hu;obtain⟨a,n,c,e⟩:=hz;simp[rowC,kC,e] at hu;rcases hu with rfl|rfl|rfl|rfl<;>rfl) (by unfold maxLen;omega) (by omega) (by simp;omega)
 obtain⟨g,cap,rfl,_,_⟩:=own_form h2 (fun e=>by subst e;rcases h2.2 with⟨_,hn⟩|⟨_,_,_,e,_⟩<;>first|omega|cases e);refine⟨g,cap,w',hr,?_,(World.grownBy_alloc w _ _).trans h3,?_⟩
 ·rw[rowC_append,List.length_append]
  exact h2
 ·rcases h5 with h5|h5
  ·exact .inl h5.symm
  ·right
   simpa [Value.ownBlock] using h5
def zD (zs:List (Kd×Value)) (s:ByteArray):Bool:= !(zs.all (fun z=>less z.1.sum s))
def zQ (zs:List (Kd×Value)) (one:Kd×Value):List (Kd×Value):=zs.filter (fun z=>less z.1.sum one.1.sum)++(if zD zs one.1.sum then [one] else [])++zs.filter (fun z=> !(less z.1.sum one.1.sum))
def insZ (zs:List (Kd×Value)) (one:Kd×Value):List (Kd×Value):=zs.filter (fun z=>less z.1.sum one.1.sum)++[one]++zs.filter (fun z=> !(less z.1.sum one.1.sum))
theorem insZ_map (zs:List (Kd×Value)) (one:Kd×Value):(insZ zs one).map (·.1)=insK (zs.map (·.1)) one.1:=by
 unfold insZ insK;rw[List.map_append,List.map_append,List.filter_map,List.filter_map];rfl
theorem insZ_mem {zs:List (Kd×Value)} {one z:Kd×Value} (h:z∈insZ zs one):z∈zs∨z=one:=by
 unfold insZ at h;simp only[List.mem_append,List.mem_filter,List.mem_singleton] at h;rcases h with(h|h)|h
 ·exact .inl h.1
 ·exact .inr h
 ·exact .inl h.1
theorem zD_snoc {zs:List (Kd×Value)} {k:Nat} {x:Kd×Value} (s:ByteArray) (hx:zs[k]?=some x):zD (zs.take (k+1)) s=(zD (zs.take k) s|| !(less x.1.sum s)):=by
 obtain⟨hlt,rfl⟩:=List.getElem?_eq_some_iff.1 hx;unfold zD;rw[List.take_succ_eq_append_getElem hlt,List.all_append];simp
theorem zQ_above {zs:List (Kd×Value)} {s:ByteArray} (h:zD zs s=false):zs.filter (fun z=> !(less z.1.sum s))=[]:=by
 rw[List.filter_eq_nil_iff];intro x hx;have:less x.1.sum s=true:=by
  unfold zD at h;simp only[Bool.not_eq_false'] at h;exact List.all_eq_true.1 h x hx
 simp[this]
theorem zQ_early {zs:List (Kd×Value)} {k:Nat} {x:Kd×Value} (one:Kd×Value) (hx:zs[k]?=some x) (hd:zD (zs.take k) one.1.sum=false) (hl:less x.1.sum one.1.sum=true):zQ (zs.take (k+1)) one=zQ (zs.take k) one++[x]:=by
 have h1:=zD_snoc one.1.sum hx;rw[hd,hl] at h1;unfold zQ;rw[zQ_above hd,zQ_above (by rw[h1];rfl),h1,hd];obtain⟨hlt,rfl⟩:=List.getElem?_eq_some_iff.1 hx;rw[List.take_succ_eq_append_getElem hlt,List.filter_append];simp[hl]
theorem zQ_at {zs:List (Kd×Value)} {k:Nat} {x:Kd×Value} (one:Kd×Value) (hx:zs[k]?=some x) (hd:zD (zs.take k) one.1.sum=false) (hl:less x.1.sum one.1.sum=false):zQ (zs.take (k+1)) one=zQ (zs.take k) one++[one]++[x]:=by
 have h1:=zD_snoc one.1.sum hx;rw[hd,hl] at h1;have ha:=zQ_above hd;unfold zQ;rw[ha,h1,hd];obtain⟨hlt,rfl⟩:=List.getElem?_eq_some_iff.1 hx;rw[List.take_succ_eq_append_getElem hlt,List.filter_append,List.filter_append,ha];simp[hl]
theorem zQ_late {zs:List (Kd×Value)} {k:Nat} {x:Kd×Value} (one:Kd×Value) (hsort:(zs.map (·.1.sum)).Pairwise (fun a b=>less a b=true)) (hx:zs[k]?=some x) (hd:zD (zs.take k) one.1.sum=true):zQ (zs.take (k+1)) one=zQ (zs.take k) one++[x]:=by
 have h1:=zD_snoc one.1.sum hx;rw[hd,Bool.true_or] at h1;obtain⟨hlt,rfl⟩:=List.getElem?_eq_some_iff.1 hx;obtain⟨y,hy,hyn⟩:∃y∈zs.take k,less y.1.sum one.1.sum=false:=by
  unfold zD at hd;simpa using hd
 obtain⟨j,hj⟩:=List.getElem?_of_mem hy;obtain⟨hjl,e⟩:=List.getElem?_eq_some_iff.1 hj;rw[List.length_take] at hjl;rw[List.getElem_take] at e;have hlt2:=List.pairwise_iff_getElem.1 hsort j k (by simp;omega) (by simpa using hlt) (by omega);rw[List.getElem_map,List.getElem_map,e] at hlt2;have hl:less zs[k].1.sum one.1.sum=false:=by
  cases h:less zs[k].1.sum one.1.sum with
  |false=>rfl
  |true=>rw[less_trans hlt2 h] at hyn;cases hyn
 unfold zQ;rw[h1,hd,List.take_succ_eq_append_getElem hlt,List.filter_append,List.filter_append];simp[hl]
theorem zQ_yes {zs:List (Kd×Value)} (one:Kd×Value) (hd:zD zs one.1.sum=true):zQ zs one=insZ zs one:=by
 unfold zQ insZ;rw[hd];rfl
theorem zQ_no {zs:List (Kd×Value)} (one:Kd×Value) (hd:zD zs one.1.sum=false):zQ zs one++[one]=insZ zs one:=by
 unfold zQ insZ;rw[hd,zQ_above hd];simp
theorem zQ_len (zs:List (Kd×Value)) (one:Kd×Value):(zQ zs one).length<=zs.length+1:=by
 have h:∀(l:List (Kd×Value)),(l.filter (fun z=>less z.1.sum one.1.sum)).length+(l.filter (fun z=> !(less z.1.sum one.1.sum))).length=l.length:=by
  intro l;induction l with
  |nil=>rfl
  |cons y l ih=>cases hl:less y.1.sum one.1.sum<;>simp[hl]<;>omega
 have:=h zs;unfold zQ;rw[List.length_append,List.length_append];split<;>simp<;>omega
theorem find_ge {ks:List Kd} {s:ByteArray} (h:There ks s):∃(i:Nat) (k:Kd),findI ks s=(i:Int)/\ks[i]?=some k/\k.sum=s:=by
 rcases findI_cases ks s with⟨_,hn⟩|⟨i,k,e,h1,h2⟩
 ·exact absurd h hn
 ·exact⟨i,k,e,h1,h2⟩
theorem find_lt {ks:List Kd} {s:ByteArray} (h:¬There ks s):findI ks s<0:=by
 rcases findI_cases ks s with⟨e,_⟩|⟨i,k,e,h1,h2⟩
 ·omega
 ·exact absurd ⟨k,List.mem_of_getElem? h1,h2⟩ h
end Go.Proofs.YtpekbmegopfhfaaGreatDoor
