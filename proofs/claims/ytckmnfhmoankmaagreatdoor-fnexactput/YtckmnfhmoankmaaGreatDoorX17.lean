import Derived.Test.YtckmnfhmoankmaaGreatDoorX06
import Derived.Test.YtckmnfhmoankmaaGreatDoorX16
set_option maxRecDepth 100000
set_option maxHeartbeats 16000000
namespace Go.Proofs.YtckmnfhmoankmaaGreatDoor
open Go.ChangeShapes Go.WideShapes Go.ChangeAt Go.RowKit _root_.Go.Proofs.Tryz
theorem Kc(t:Zi)(l:Zk)(o:Nat)(b:Zl)(w:Zh)(hr:Ad w w.heap.size l b)(z:l=none->b.length=0/\o=0)(hl:b.length<=1048576):
 Calls prog 22 #[.agg #[.string t,.slice l b.length o]] w fun e T=>∃g c,e=.returned (.agg #[.string t,Za g b.length c])/\
  T.ownsRow w.heap.size 9 1 (Za g b.length c) b.length (b.map Value.string)/\Zz w T:=by
 obtain⟨i0,hi,U,V,X⟩:=info_parts CP;obtain⟨m,d⟩:∃m,m=w.alloc (.cells #[.string t,.slice l b.length o] 51):=⟨_,rfl⟩;have q:=(AJ d).1;have K:=(AJ d).2.2;have A:=(AJ d).2.1;obtain⟨W,x⟩:∃W,W=m.alloc (.cells #[Zd,Zc] 51):=⟨_,rfl⟩;have r:=(AJ x).1;have u:=(AJ x).2.2;have L:=K.below r;have i:Below w.heap.size w W:=q.trans (r.mono q.size);have C:m.heap.size<W.heap.size:=u.lt
 obtain⟨B,N⟩:∃B,B=m.heap.size:=⟨_,rfl⟩;have F:w.heap.size<B:=by omega
 rw[←N]at u C;have k:w.heap.size<W.heap.size:=by omega
 have E:=Yx d;have I:=Yx x;have J:Hid (w.heap.size+1=B):=by show _=_;omega
 obtain⟨R,S⟩:=Aa.c2 L 0 1;have h:Below W.heap.size W (W.alloc (.cells #[] 9)):=Zy;have P:(W.alloc (.cells #[] 9)).drew.ownsRow (B+1) 9 1 (Za W.heap.size 0 0) 0 (([]:Zl).map Value.string):=World.ownsRow_lit W #[] 0 (by omega) (by unfold maxLen;omega) rfl;have Q:=(Ad.below hr (i.trans (h.drew.mono i.size))).fe
 have q0:(W.alloc (.cells #[] 9)).cell? (Ze (w.heap.size) 0)=some (.string t):=(h.cell (p:=⟨w.heap.size,0,none⟩) k).trans R;have q1:(W.alloc (.cells #[] 9)).cell? (Ze (w.heap.size) 1)=some (.slice l b.length o):=(h.cell (p:=⟨w.heap.size,1,none⟩) k).trans S;have HR:=Yx u;have D:=Yx i;clear d x N q r K u L i A;go_enter func22,ntmps22;go_upto_region 1 with fail;rw[←E.o,←I.o,J.o];clear E I J
 go_region_law (first
  |(refine Fk (W.alloc (.cells #[] 9)).drew rfl (.tmp 5) (.tmp 7) 22 rfl (B+1) 9 i0 Zd 16 underlying22 hi U V X rfl W.heap.size 0 0 [] rfl P l b.length o b rfl rfl z Q (by unfold maxLen;omega) (by omega) (by simp;omega) ?_;intro O f H s G y Y;simp only[Nat.zero_add,List.nil_append]at s;have n:Below W.heap.size W H:=h.drew.grown G (by simp) (fun j hj=>by cases hj;exact Zx);have M:=Aa.below HR.o n;obtain⟨y0,f0⟩:=M 0 _ rfl;obtain⟨y1,f1⟩:=M 1 _ rfl;have p0:=(n.cell (p:=⟨w.heap.size,0,none⟩) k).trans R;have p1:=(n.cell (p:=⟨w.heap.size,1,none⟩) k).trans S))
 all_goals
  have HO:=Yx s;have Z:Hid (Zz w H):=D.o.trans (n.mono D.o.size);clear s G y n P Q q0 q1;go_wp2;refine bodyPost_ret (v:=.agg #[.string t,Za O b.length f]) (by simp[results,results22,go_sem, *]) rfl ?_;refine⟨_,_,rfl,?_,?_⟩
  ·exact(ownsRow_setCell_below (ownsRow_setCell_below HO.o (a:=⟨B,0,none⟩) (Nat.lt_succ_self B) _) (a:=⟨B,1,none⟩) (Nat.lt_succ_self B) _).mono (by omega)
  ·exact(Z.o.setCell (p:=⟨B,0,none⟩) (Nat.le_of_lt F) _).setCell (p:=⟨B,1,none⟩) (Nat.le_of_lt F) _
theorem AV.cf{w:Zh}{base:Nat}{T P L:Value}{d:Zj}{f:List Kd}{k:List Pd}{j:List Ld}(h:AV w base T P L d f k j):∀g∈Bk T P L d,g<w.heap.size:=by
 intro g a;unfold Bk at a;simp only[List.mem_append,Option.mem_toList,List.mem_filterMap]at a;rcases a with a|a|a|⟨r,e,a⟩
 ·exact(Ac h.ai a).2
 ·exact(Ac h.pins a).2
 ·exact(Ac h.an a).2
 ·obtain⟨i,b⟩:=List.getElem?_of_mem e;have c:=(Zw b).1;rw[h.len]at c;exact(Ac (h.refs i _ r (Zv c) b) a).2
theorem AV.apart{w j:Zh}{base:Nat}{T P L:Value}{d:Zj}{m:List Kd}{o:List Pd}{n:List Ld}(h:AV w base T P L d m o n){V:List Nat}(s:Tn V w j)(p:∀b∈V,b∉Bk T P L d):AV j base T P L d m o n:=by
 have c:∀g,g∈Bk T P L d->g<w.heap.size->j.heap[g]?=w.heap[g]?:=fun g a q=>s.block g q (fun e=>p g e a)
 refine⟨h.len,Ak h.ai (fun g a=>c g (by unfold Bk;simp[a]) (Ac h.ai a).2),fun i k r l f=>Ak (h.refs i k r l f) (fun g a=>c g (by unfold Bk;simp only[List.mem_append,List.mem_filterMap];exact .inr (.inr (.inr ⟨r,Zs f,a⟩))) (Ac (h.refs i k r l f) a).2),Ak h.pins (fun g a=>c g (by unfold Bk;simp[a]) (Ac h.pins a).2),Ak h.an (fun g a=>c g (by unfold Bk;simp[a]) (Ac h.an a).2),h.nd⟩
theorem AV.rows{w:Zh}{base:Nat}{T P L:Value}{a:Zj}{b:List Kd}{t:List Pd}{r:List Ld}(h:AV w base T P L a b t r):∃m u l s f q,T=.slice m b.length u/\P=.slice l t.length s/\L=.slice f r.length q/\BJ w w.heap.size m l f b t r:=by
 obtain⟨m,u,rfl⟩:=Ar h.ai;obtain⟨l,s,rfl⟩:=Ar h.pins;obtain⟨f,q,rfl⟩:=Ar h.an;refine⟨m,u,l,s,f,q,rfl,rfl,rfl,⟨?_,Ba.own h.pins,Be.own h.an⟩⟩;rcases h.ai.2 with⟨_,p⟩|⟨g,F,G,e,J,A,_⟩
 ·exact .inl (List.length_eq_zero_iff.1 p)
 ·cases e;refine .inr ⟨g,0,rfl,(Array.getElem?_eq_some_iff.1 A).1,fun i k o=> ?_⟩;have K:=(Zw o).1;have hlen:=h.len;have v:a[i]?=some a[i]:=Zv (by omega);have C:(b.zip a)[i]?=some (k,a[i]):=List.getElem?_zip_eq_some.2 ⟨o,v⟩;have H:(b.zip a).length=b.length:=by rw[List.length_zip];omega
  have c:∀j,j<4->w.cell? (Ze g (i *4+j))=(kC (k,a[i]))[j]?:=fun j B=>(h.ai.cellAt (i *4+j) (by omega)).trans (Bz Ej C B);have d:=h.refs i k _ o v;obtain⟨D,E,n⟩:=Ar d;rw[Nat.zero_add];refine⟨by simpa [kC]using c 0 (by decide),by simpa [kC]using c 1 (by decide),by simpa [kC]using c 2 (by decide),D,E,?_,?_⟩
  ·have:=c 3 (by decide);rw[←n];simpa [kC]using this
  ·rw[n]at d;rcases d.2 with⟨_,p⟩|⟨I,x,y,z,_⟩
   ·exact .inl (List.eq_nil_of_length_eq_zero p)
   ·cases z;exact Ad.own d
theorem Vl{a:List Kd}(h:∀k∈a,k.refs.length<=30):AI a<=30 *a.length:=by
 induction a with
 |nil=>simp[AI]
 |cons x xs ih=>rw[Lk];have c:=h x (by simp);have d:=ih (fun k b=>h k (by simp[b]));simp only[List.length_cons];omega
end Go.Proofs.YtckmnfhmoankmaaGreatDoor
