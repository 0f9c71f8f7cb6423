import Derived.Test.YtpekbmegopfhfaaGreatDoorK14
set_option maxRecDepth 100000
set_option maxHeartbeats 16000000
namespace Go.Proofs.YtpekbmegopfhfaaGreatDoor
open Go.ChangeShapes Go.WideShapes Go.ChangeAt Go.RowKit _root_.Go.Proofs.Tryz
theorem JZ (w:World) (base:Nat) (v:Value) (zs:List (Kd×Value)) (ho:w.ownsRow base 114 4 v zs.length (Ab kC zs)) (z:Kd×Value) (hz:∃a n c,z.2=.slice a n c) (hn:zs.length<=1000000) (zA:base<=w.heap.size) (ty:TypeId):
 ∃g cap w',(Builtin.append_ #[24,24] ty #[v,.slice (some ⟨w.heap.size,0,none⟩) 1 1]).run prog (w.alloc (.cells #[.string z.1.sum,XJ z.1.born,.string z.1.text,z.2] 114))=.ok (.slice (some ⟨g,0,none⟩) (zs.length+1) cap) w'/\w'.ownsRow base 114 4 (.slice (some ⟨g,0,none⟩) (zs.length+1) cap) (zs++[z]).length (Ab kC (zs++[z]))/\w.grownBy w' v.ownBlock/\(v.ownBlock=some g∨g=w.heap.size+1):=by
 obtain⟨i0,hi,zC,zB,zE⟩:=info_parts Gc;have zF:=Ad ho ((Below.refl _ _).alloc (XB) (.cells #[.string z.1.sum,XJ z.1.born,.string z.1.text,z.2] 114));have hc:∀j u,(Ab kC [z])[j]?=some u->(w.alloc (.cells #[.string z.1.sum,XJ z.1.born,.string z.1.text,z.2] 114)).cell? ((⟨w.heap.size,0,none⟩:Addr).add j)=some u:=by
  intro j u hu;rw[Go.WideShapes.add_plain,Nat.zero_add];exact(Aa.new w [.string z.1.sum,XJ z.1.born,.string z.1.text,z.2] 114 j u (by simpa [Ab,kC] using hu)).1
 obtain⟨v',w',hr,h2,h3,_,h5⟩:=run_append_own_at (P:=prog) (w.alloc (.cells #[.string z.1.sum,XJ z.1.born,.string z.1.text,z.2] 114)) base 24 ty 114 i0 _ 4 64 underlying24 hi zC zB zE rfl (by decide) v zs.length (Ab kC zs) zF ⟨w.heap.size,0,none⟩ 1 1 (Ab kC [z]) (by simp[Ab,kC]) hc (by intro u hu;obtain⟨a,n,c,e⟩:=hz;simp[Ab,kC,e] at hu;rcases hu with rfl|rfl|rfl|rfl<;>rfl) (by unfold maxLen;omega) (by omega) (by simp;omega)
 obtain⟨g,cap,rfl,_,_⟩:=BR h2 (fun e=>by subst e;rcases h2.2 with⟨_,hn⟩|⟨_,_,_,e,_⟩<;>first|omega|cases e);refine⟨g,cap,w',hr,?_,(World.grownBy_alloc w _ _).trans h3,?_⟩
 ·rw[GK,List.length_append]
  exact h2
 ·rcases h5 with h5|h5
  ·exact .inl h5.symm
  ·right
   simpa [Value.ownBlock] using h5
def zD (zs:List (Kd×Value)) (s:ByteArray):Bool:= !(zs.all (fun z=>less z.1.sum s))
def zQ (zs:List (Kd×Value)) (one:Kd×Value):List (Kd×Value):=zs.filter (fun z=>less z.1.sum one.1.sum)++(if zD zs one.1.sum then [one] else [])++zs.filter (fun z=> !(less z.1.sum one.1.sum))
def Bs (zs:List (Kd×Value)) (one:Kd×Value):List (Kd×Value):=zs.filter (fun z=>less z.1.sum one.1.sum)++[one]++zs.filter (fun z=> !(less z.1.sum one.1.sum))
theorem MQ (zs:List (Kd×Value)) (one:Kd×Value):(Bs zs one).map (·.1)=Dh (zs.map (·.1)) one.1:=by
 unfold Bs Dh;rw[List.map_append,List.map_append,List.filter_map,List.filter_map];rfl
theorem Fh {zs:List (Kd×Value)} {one z:Kd×Value} (h:z∈Bs zs one):z∈zs∨z=one:=by
 unfold Bs at h;simp only[List.mem_append,List.mem_filter,List.mem_singleton] at h;rcases h with(h|h)|h
 ·exact .inl h.1
 ·exact .inr h
 ·exact .inl h.1
theorem IK {zs:List (Kd×Value)} {k:Nat} {x:Kd×Value} (s:ByteArray) (hx:zs[k]?=some x):zD (zs.take (k+1)) s=(zD (zs.take k) s|| !(less x.1.sum s)):=by
 obtain⟨zA,rfl⟩:=XC hx;unfold zD;rw[XE zA,List.all_append];simp
theorem He {zs:List (Kd×Value)} {s:ByteArray} (h:zD zs s=false):zs.filter (fun z=> !(less z.1.sum s))=[]:=by
 rw[List.filter_eq_nil_iff];intro x hx;have:less x.1.sum s=true:=by
  unfold zD at h;simp only[Bool.not_eq_false'] at h;exact List.all_eq_true.1 h x hx
 simp[this]
theorem Tb {zs:List (Kd×Value)} {k:Nat} {x:Kd×Value} (one:Kd×Value) (hx:zs[k]?=some x) (hd:zD (zs.take k) one.1.sum=false) (hl:less x.1.sum one.1.sum=true):zQ (zs.take (k+1)) one=zQ (zs.take k) one++[x]:=by
 have h1:=IK one.1.sum hx;rw[hd,hl] at h1;unfold zQ;rw[He hd,He (by rw[h1];rfl),h1,hd];obtain⟨zA,rfl⟩:=XC hx;rw[XE zA,List.filter_append];simp[hl]
theorem Wh {zs:List (Kd×Value)} {k:Nat} {x:Kd×Value} (one:Kd×Value) (hx:zs[k]?=some x) (hd:zD (zs.take k) one.1.sum=false) (hl:less x.1.sum one.1.sum=false):zQ (zs.take (k+1)) one=zQ (zs.take k) one++[one]++[x]:=by
 have h1:=IK one.1.sum hx;rw[hd,hl] at h1;have ha:=He hd;unfold zQ;rw[ha,h1,hd];obtain⟨zA,rfl⟩:=XC hx;rw[XE zA,List.filter_append,List.filter_append,ha];simp[hl]
theorem UR {zs:List (Kd×Value)} {k:Nat} {x:Kd×Value} (one:Kd×Value) (zA:(zs.map (·.1.sum)).Pairwise (fun a b=>less a b=true)) (hx:zs[k]?=some x) (hd:zD (zs.take k) one.1.sum=true):zQ (zs.take (k+1)) one=zQ (zs.take k) one++[x]:=by
 have h1:=IK one.1.sum hx;rw[hd,Bool.true_or] at h1;obtain⟨zE,rfl⟩:=XC hx;obtain⟨y,hy,zC⟩:∃y∈zs.take k,less y.1.sum one.1.sum=false:=by
  unfold zD at hd;simpa using hd
 obtain⟨j,hj⟩:=List.getElem?_of_mem hy;obtain⟨zF,e⟩:=XC hj;rw[List.length_take] at zF;rw[List.getElem_take] at e;have zB:=List.pairwise_iff_getElem.1 zA j k (by simp;omega) (by simpa using zE) (by omega);rw[List.getElem_map,List.getElem_map,e] at zB;have hl:less zs[k].1.sum one.1.sum=false:=by
  cases h:less zs[k].1.sum one.1.sum with
  |false=>rfl
  |true=>rw[Cl zB h] at zC;cases zC
 unfold zQ;rw[h1,hd,XE zE,List.filter_append,List.filter_append];simp[hl]
theorem Vy {zs:List (Kd×Value)} (one:Kd×Value) (hd:zD zs one.1.sum=true):zQ zs one=Bs zs one:=by
 unfold zQ Bs;rw[hd];rfl
theorem Wi {zs:List (Kd×Value)} (one:Kd×Value) (hd:zD zs one.1.sum=false):zQ zs one++[one]=Bs zs one:=by
 unfold zQ Bs;rw[hd,He hd];simp
theorem Rf (zs:List (Kd×Value)) (one:Kd×Value):(zQ zs one).length<=zs.length+1:=by
 have h:∀(l:List (Kd×Value)),(l.filter (fun z=>less z.1.sum one.1.sum)).length+(l.filter (fun z=> !(less z.1.sum one.1.sum))).length=l.length:=by
  intro l;induction l with
  |nil=>rfl
  |cons y l ih=>cases hl:less y.1.sum one.1.sum<;>simp[hl]<;>omega
 have:=h zs;unfold zQ;rw[List.length_append,List.length_append];split<;>simp<;>omega
theorem KG {ks:List Kd} {s:ByteArray} (h:Au ks s):∃(i:Nat) (k:Kd),Cy ks s=(i:Int)/\ks[i]?=some k/\k.sum=s:=by
 rcases Fu ks s with⟨_,hn⟩|⟨i,k,e,h1,h2⟩
 ·exact absurd h hn
 ·exact⟨i,k,e,h1,h2⟩
theorem GW {ks:List Kd} {s:ByteArray} (h:¬Au ks s):Cy ks s<0:=by
 rcases Fu ks s with⟨e,_⟩|⟨i,k,e,h1,h2⟩
 ·omega
 ·exact absurd ⟨k,XG h1,h2⟩ h
end Go.Proofs.YtpekbmegopfhfaaGreatDoor
