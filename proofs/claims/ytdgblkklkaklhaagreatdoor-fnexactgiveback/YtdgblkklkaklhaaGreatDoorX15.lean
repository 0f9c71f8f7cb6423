import Derived.Test.YtdgblkklkaklhaaGreatDoorX14
set_option maxRecDepth 100000
set_option maxHeartbeats 16000000
namespace Go.Proofs.YtdgblkklkaklhaaGreatDoor
open Go.ChangeShapes Go.WideShapes Go.ChangeAt Go.RowKit _root_.Go.Proofs.Tryz
theorem KV(w:Zh)(base:Nat)(v:Value)(b:List (Kd×Value))(A:w.ownsRow base 131 4 v b.length (Ab kC b))(z:Kd×Value)(C:∃a n c,z.2=.slice a n c)(y:b.length<=1000000)(l:base<=w.heap.size)(m:TypeId):
 ∃g d h,(Builtin.append_ #[36,36] m #[v,Za w.heap.size 1 1]).run prog (w.alloc (.cells #[.string z.1.sum,Zg z.1.born,.string z.1.text,z.2] 131))=.ok (Za g (b.length+1) d) h/\h.ownsRow base 131 4 (Za g (b.length+1) d) (b++[z]).length (Ab kC (b++[z]))/\w.grownBy h v.ownBlock/\(v.ownBlock=some g∨g=w.heap.size+1):=by
 obtain⟨D,x,p,q,r⟩:=info_parts GF;have o:=Ae A ((Below.refl _ _).alloc (Zx) (.cells #[.string z.1.sum,Zg z.1.born,.string z.1.text,z.2] 131));have t:∀j u,(Ab kC [z])[j]?=some u->(w.alloc (.cells #[.string z.1.sum,Zg z.1.born,.string z.1.text,z.2] 131)).cell? ((⟨w.heap.size,0,none⟩:Addr).add j)=some u:=by intro j u i;rw[Go.WideShapes.add_plain,Nat.zero_add];exact(Aa.new w [.string z.1.sum,Zg z.1.born,.string z.1.text,z.2] 131 j u (by simpa [Ab,kC]using i)).1
 obtain⟨E,h,B,k,s,_,f⟩:=run_append_own_at (P:=prog) (w.alloc (.cells #[.string z.1.sum,Zg z.1.born,.string z.1.text,z.2] 131)) base 36 m 131 D _ 4 64 underlying36 x p q r rfl (by decide) v b.length (Ab kC b) o ⟨w.heap.size,0,none⟩ 1 1 (Ab kC [z]) (by simp[Ab,kC]) t (by intro u i;obtain⟨a,n,c,e⟩:=C;simp[Ab,kC,e]at i;rcases i with rfl|rfl|rfl|rfl<;>rfl) (by unfold maxLen;omega) (by omega) (by simp;omega)
 obtain⟨g,d,rfl,_,_⟩:=Cf k (fun e=>by subst e;rcases k.2 with⟨_,y⟩|⟨_,_,_,e,_⟩<;>first|omega|cases e);refine⟨g,d,h,B,?_,(World.grownBy_alloc w _ _).trans s,?_⟩
 ·rw[Hz,List.length_append];exact k
 ·rcases f with f|f
  ·exact .inl f.symm
  ·right;simpa [Value.ownBlock]using f
def zD(zs:List (Kd×Value))(s:Zi):Bool:= !(zs.all (fun z=>less z.1.sum s))
def zQ(zs:List (Kd×Value))(one:Kd×Value):List (Kd×Value):=zs.filter (fun z=>less z.1.sum one.1.sum)++(if zD zs one.1.sum then [one]else [])++zs.filter (fun z=> !(less z.1.sum one.1.sum))
def By(zs:List (Kd×Value))(one:Kd×Value):List (Kd×Value):=zs.filter (fun z=>less z.1.sum one.1.sum)++[one]++zs.filter (fun z=> !(less z.1.sum one.1.sum))
theorem NU(a:List (Kd×Value))(one:Kd×Value):(By a one).map (·.1)=Dz (a.map (·.1)) one.1:=by unfold By Dz;rw[List.map_append,List.map_append,List.filter_map,List.filter_map];rfl
theorem FJ{a:List (Kd×Value)}{one z:Kd×Value}(h:z∈By a one):z∈a∨z=one:=by
 unfold By at h;simp only[List.mem_append,List.mem_filter,List.mem_singleton]at h;rcases h with(h|h)|h
 ·exact .inl h.1
 ·exact .inr h
 ·exact .inl h.1
theorem JD{a:List (Kd×Value)}{k:Nat}{x:Kd×Value}(s:Zi)(c:a[k]?=some x):zD (a.take (k+1)) s=(zD (a.take k) s|| !(less x.1.sum s)):=by obtain⟨b,rfl⟩:=Zw c;unfold zD;rw[Zu b,List.all_append];simp
theorem Iv{a:List (Kd×Value)}{s:Zi}(h:zD a s=false):a.filter (fun z=> !(less z.1.sum s))=[]:=by
 rw[List.filter_eq_nil_iff];intro x b;have:less x.1.sum s=true:=by unfold zD at h;simp only[Bool.not_eq_false']at h;exact List.all_eq_true.1 h x b
 simp[this]
theorem UD{a:List (Kd×Value)}{k:Nat}{x:Kd×Value}(one:Kd×Value)(e:a[k]?=some x)(c:zD (a.take k) one.1.sum=false)(d:less x.1.sum one.1.sum=true):zQ (a.take (k+1)) one=zQ (a.take k) one++[x]:=by have b:=JD one.1.sum e;rw[c,d]at b;unfold zQ;rw[Iv c,Iv (by rw[b];rfl),b,c];obtain⟨f,rfl⟩:=Zw e;rw[Zu f,List.filter_append];simp[d]
theorem ZC{a:List (Kd×Value)}{k:Nat}{x:Kd×Value}(one:Kd×Value)(f:a[k]?=some x)(b:zD (a.take k) one.1.sum=false)(e:less x.1.sum one.1.sum=false):zQ (a.take (k+1)) one=zQ (a.take k) one++[one]++[x]:=by have c:=JD one.1.sum f;rw[b,e]at c;have d:=Iv b;unfold zQ;rw[d,c,b];obtain⟨g,rfl⟩:=Zw f;rw[Zu g,List.filter_append,List.filter_append,d];simp[e]
theorem Ww{c:List (Kd×Value)}{k:Nat}{x:Kd×Value}(one:Kd×Value)(f:(c.map (·.1.sum)).Pairwise (fun a b=>less a b=true))(n:c[k]?=some x)(g:zD (c.take k) one.1.sum=true):zQ (c.take (k+1)) one=zQ (c.take k) one++[x]:=by
 have m:=JD one.1.sum n;rw[g,Bool.true_or]at m;obtain⟨i,rfl⟩:=Zw n;obtain⟨y,r,l⟩:∃y∈c.take k,less y.1.sum one.1.sum=false:=by unfold zD at g;simpa using g
 obtain⟨j,p⟩:=List.getElem?_of_mem r;obtain⟨o,e⟩:=Zw p;rw[List.length_take]at o;rw[List.getElem_take]at e;have d:=List.pairwise_iff_getElem.1 f j k (by simp;omega) (by simpa using i) (by omega);rw[List.getElem_map,List.getElem_map,e]at d;have q:less c[k].1.sum one.1.sum=false:=by
  cases h:less c[k].1.sum one.1.sum with
  |false=>rfl
  |true=>rw[Cl d h]at l;cases l
 unfold zQ;rw[m,g,Zu i,List.filter_append,List.filter_append];simp[q]
theorem XK{a:List (Kd×Value)}(one:Kd×Value)(b:zD a one.1.sum=true):zQ a one=By a one:=by unfold zQ By;rw[b];rfl
theorem ZD{a:List (Kd×Value)}(one:Kd×Value)(b:zD a one.1.sum=false):zQ a one++[one]=By a one:=by unfold zQ By;rw[b,Iv b];simp
theorem SG(a:List (Kd×Value))(one:Kd×Value):(zQ a one).length<=a.length+1:=by
 have h:∀(l:List (Kd×Value)),(l.filter (fun z=>less z.1.sum one.1.sum)).length+(l.filter (fun z=> !(less z.1.sum one.1.sum))).length=l.length:=by
  intro l;induction l with
  |nil=>rfl
  |cons y l ih=>cases hl:less y.1.sum one.1.sum<;>simp[hl]<;>omega
 have:=h a;unfold zQ;rw[List.length_append,List.length_append];split<;>simp<;>omega
theorem LH{a:List Kd}{s:Zi}(h:Ax a s):∃(i:Nat) (k:Kd),CE a s=(i:Int)/\a[i]?=some k/\k.sum=s:=by
 rcases FT a s with⟨_,d⟩|⟨i,k,e,b,c⟩
 ·exact absurd h d
 ·exact⟨i,k,e,b,c⟩
theorem Io{a:List Kd}{s:Zi}(h:¬Ax a s):CE a s<0:=by
 rcases FT a s with⟨e,_⟩|⟨i,k,e,b,c⟩
 ·omega
 ·exact absurd ⟨k,Zs b,c⟩ h
end Go.Proofs.YtdgblkklkaklhaaGreatDoor
