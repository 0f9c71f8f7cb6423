import Derived.Test.YtckmnfhmoankmaaGreatDoorX03
import Derived.Test.YtckmnfhmoankmaaGreatDoorX05
import Derived.Sort.Walk0
import Derived.Deep.Slices
set_option maxRecDepth 100000
set_option maxHeartbeats 16000000
namespace Go.Proofs.YtckmnfhmoankmaaGreatDoor
open Go.ChangeShapes Go.WideShapes Go.ChangeAt Go.RowKit _root_.Go.Proofs.Tryz
def AI(ks:List Kd):Nat:=(ks.map (fun k=>k.refs.length)).sum
theorem IE{a:List Kd}{k:Nat}{x:Kd}(h:a[k]?=some x):AI (a.take (k+1))=AI (a.take k)+x.refs.length:=by unfold AI;rw[List.take_add_one,h];simp
theorem GI(a:List Kd)(k:Nat):AI (a.take k)<=AI a:=by
 have h:AI a=AI (a.take k)+AI (a.drop k):=by unfold AI;rw[←List.sum_append,←List.map_append,List.take_append_drop]
 omega
theorem SN(t:Zi)(a:Zk)(d:Nat)(b:Zl)(left:Int)(w:Zh)(c:Ad w w.heap.size a b)
 (m:t.size<=maxLen) (k:b.length<=maxLen) (l:∀s∈b,s.size<=maxLen) (j:0<=left) (i:left<=1048576):
 Calls prog 5 #[.agg #[.string t,.slice a b.length d],Zg left] w fun e g=>∃r:Int,e=.returned (Zg r)/\Zz w g/\r<=left/\(0<=r->b.length<=1048576/\r<=left -b.length):=by
 by_cases hfit:(t.size:Int)+b.length+aq b<=left
 ·refine(JN t a d b left w c i hfit).mono ?_;rintro e g ⟨rfl,f⟩;exact⟨_,rfl,f,by omega,fun _=>⟨by omega,by omega⟩⟩
 ·refine(KD t a d b left w c m k l j i (by omega)).mono ?_;rintro e g ⟨rfl,f⟩;exact⟨_,rfl,f,by omega,fun h=>by omega⟩
theorem UH(k:Kd)(a:Zk)(b:Nat)(left:Int)(w:Zh)(c:Ad w w.heap.size a k.refs)
 (l:k.sum.size<=maxLen) (o:k.text.size<=maxLen) (m:k.refs.length<=maxLen) (n:∀s∈k.refs,s.size<=maxLen) (q:0<=left) (t:left<=1048576):
 Calls prog 65 #[.agg #[.string k.sum,Zg k.born,.string k.text,.slice a k.refs.length b],Zg left] w fun e p=>∃r:Int,e=.returned (Zg r)/\Zz w p/\r<=left/\(0<=r->k.refs.length<=1048576/\r<=left -k.refs.length):=by
 have d:Below w.heap.size w (w.alloc (.cells #[.string k.sum,Zg k.born,.string k.text,.slice a k.refs.length b] 112)):=Zy;have i:=l;unfold maxLen at i;by_cases hn:left<k.sum.size
 ·go_enter func65,ntmps65;go_wp2;go_ret;exact⟨_,rfl,d,by omega,fun h=>by omega⟩
 ·go_enter func65,ntmps65;go_wp2_with fail;refine(SN k.text a b k.refs _ _ (c.af d) o m n (by omega) (by omega)).mono ?_;rintro e v ⟨r,rfl,j,u,g⟩;have f:=d.trans (j.mono (by simp));by_cases h3:r<0
  ·go_wp2;go_ret;exact⟨_,rfl,f,by omega,fun h=>by omega⟩
  ·go_wp2;go_ret;exact⟨_,rfl,f,by omega,fun h=>⟨(g (by omega)).1,by have:=(g (by omega)).2;omega⟩⟩
theorem SO(a:Zk)(C:Nat)(c:List Kd)(left:Int)(w:Zh)(n:BF w w.heap.size a c)(o:NJ c)(h1:0<=left)(h2:left<=1048576):
 Calls prog 38 #[.slice a c.length C,Zg left] w fun e U=>∃r:Int,e=.returned (Zg r)/\Zz w U/\r<=left/\(0<=r->c.length<=1048576/\(∀k∈c,k.refs.length<=1048576)/\(AI c:Int)<=1048576):=by
 have F:=o.len;unfold maxLen at F;by_cases hn:left<c.length
 ·go_enter func38,ntmps38;go_wp2;go_ret;exact⟨_,rfl,Below.refl _ _,by omega,fun h=>by omega⟩
 ·go_enter func38,ntmps38;go_wp2
  go_loopw [1,5] (fun l i wr=>∃(k:Nat) (L:Int),k<=c.length/\i=Zg k/\l=Zg L/\0<=L/\L<=left -AI (c.take k)/\Zz w wr/\Hid (∀j,j<k->∀x,c[j]?=some x->x.refs.length<=1048576)) (fun _ i _=>c.length -(intOf i).toNat)
  case atStart=>exact⟨0,_,Nat.zero_le _,rfl,rfl,by omega,by simp[AI];omega,Below.refl _ _,fun j h=>by omega⟩
  case round=>
   obtain⟨k,L,hk,rfl,rfl,D,K,d,g⟩:=hrel;by_cases hlt:k<c.length
   ·obtain⟨b,Y,M,N,z⟩:=n.at hlt;subst M;have p:=Zv hlt;have f:=List.getElem_mem hlt;obtain⟨Z,c1,c2,S,T,c3,q⟩:=(z k _ p).below d N;have P:=o.sum _ f;have Q:=o.text _ f;have R:=o.refs _ f;have B:=o.ref _ f;have J:=Yx p;have X:=IE p;clear z n o f p;generalize c[k]=x at *
    have m:=UH x S T L wr (q.mono d.size) P Q R B D (by omega);have I:=Yx m;clear m B q;go_wp2_with fail;refine Calls.mono I.o ?_;rintro e w1 ⟨r,rfl,E,hr,s⟩;have v:=d.trans (E.mono d.size);by_cases h3:r<0
    ·go_wp2;go_ret;exact⟨_,rfl,v,by omega,fun h=>by omega⟩
    ·have G:Hid (∀j,j<k+1->∀x,c[j]?=some x->x.refs.length<=1048576):=by
      intro j A y t;rcases Nat.lt_or_ge j k with u|u
      ·exact g j u y t
      ·obtain rfl:j=k:=by omega
       rw[J.o]at t;cases t;exact(s (by omega)).1
     have V:=(s (by omega)).2;clear s g;go_wp2;exact⟨⟨k+1,_,by omega,by go_num,rfl,by omega,by omega,v,G⟩,by simp[intOf];omega⟩
   ·go_wp2;go_ret;refine⟨_,rfl,d,by omega,fun _=>⟨by omega,fun x O=> ?_,by rw[Zt (by omega)]at K;omega⟩⟩;obtain⟨j,A,rfl⟩:=List.getElem_of_mem O;exact g j (by omega) _ (Zv A)
theorem SP(u m given ae:Int)(a p l:Zk)(n s q:Nat)(c:List Kd)(f:List Pd)(d:List Ld)(left:Int)(w:Zh)(b:BJ w w.heap.size a p l c f d)
 (C:NJ c) (E:NK f) (D:NL d) (P:0<=left) (Q:left<=1048576):
 Calls prog 18 #[.agg (Ys u m given ae a c.length n p f.length s l d.length q),Zg left] w fun e J=>∃r:Int,e=.returned (Zg r)/\Zz w J/\r<=left/\(0<=r->Qt c f d/\AI c<=1048576):=by
 have v:Below w.heap.size w (w.alloc (.cells (Ys u m given ae a c.length n p f.length s l d.length q) 29)):=Zy;have F:=Bb.new w u m given ae (.slice a c.length n) (.slice p f.length s) (.slice l d.length q) 29;go_enter func18,ntmps18;go_wp2_with fail;refine(SO a n c _ _ (b.af v).k C (by omega) (by omega)).mono ?_;rintro e T ⟨r,rfl,i,R,k⟩;have o:=v.trans (i.mono (by simp))
 obtain⟨_,_,_,_,_,K,x,L⟩:=F.below i;have S:=i.size;clear i;by_cases h3:r<0
 ·go_wp2;go_ret;exact⟨_,rfl,o,by omega,fun h=>by omega⟩
 ·go_wp2_with fail;refine(Qs p s f _ _ (b.af o).p E (by omega) (by omega)).mono ?_;rintro e U ⟨G,rfl,j,M,A⟩;have g:=o.trans (j.mono o.size);replace x:=(j.cell (p:=⟨w.heap.size,6,none⟩) L).trans x;have O:=j.size;clear j K;by_cases h4:G<0
  ·go_wp2;go_ret;exact⟨_,rfl,g,by omega,fun h=>by omega⟩
  ·go_wp2_with fail;refine(NM l q d _ _ (b.af g).l D (by omega) (by omega)).mono ?_;rintro e V ⟨I,rfl,z,N,B⟩;have t:=g.trans (z.mono g.size);by_cases h5:I<0
   ·go_wp2;go_ret;exact⟨_,rfl,t,by omega,fun h=>by omega⟩
   ·go_wp2;go_ret;exact⟨_,rfl,t,by omega,fun _=>⟨⟨(k (by omega)).1,(k (by omega)).2.1,A (by omega),B (by omega)⟩,by have:=(k (by omega)).2.2;omega⟩⟩
def NA(w w':Zh):Prop:=∀b o,(w.cell? (Ze b o)).isSome=true->(w'.cell? (Ze b o)).isSome=true/\(w.frozen? ⟨b,o,none⟩=false->w'.frozen? ⟨b,o,none⟩=false)
theorem NA.setCell(w:Zh)(g p:Nat)(v:Value):NA w (w.setCell ⟨g,p,none⟩ v):=fun b o a=>by
 refine⟨?_,fun h=>by simpa [go_sem]using h⟩;by_cases e:(⟨b,o,none⟩:Addr)=⟨g,p,none⟩
 ·rw[←e,World.cell?_setCell_same' _ _ _ a];rfl
 ·rw[World.cell?_setCell_other _ _ _ _ (fun c=>e c.symm)];exact a
theorem SQ(w:Zh)(g p:Nat)(v:Value):w.grownBy (w.setCell (Ze g p) v) (some g):=
 ⟨rfl,rfl,rfl,by simp,fun i _ a=>Below.heap_setCell _ _ _ _ (fun e=>a (by rw[e]))⟩
theorem CC(K:Nat)(z:Int)(w:Zh)(c:z=K)(b:1<=K)(a:K<=1000000000):
 Calls prog 61 #[Zg z] w fun e d=>e=.returned (.string (BZ K))/\Zz w d:=by
 subst c;exact Fv K w b a
theorem QH(z n given ae:Int)(T:Value)(p l:Zk)(v u:Nat)(a:List Pd)(d:List Ld)(s:Zi)(w:Zh)(I:Ba w w.heap.size p a)(G:Be w w.heap.size l d)(zB:a.length<=1000)(zA:d.length<=1000):
 Calls prog 125 #[.agg #[Zg z,Zg n,Zg given,Zg ae,T,.slice p a.length v,.slice l d.length u],.string s] w fun e Z=>Ap ((∃p∈a,p.sum=s)∨∃l∈d,l.sum=s) w Z e:=by
 have M:=Yx I;have K:=Yx G;have J:=Bb.new w z n given ae T (.slice p a.length v) (.slice l d.length u) 43;have g:Below w.heap.size w (w.alloc (.cells #[Zg z,Zg n,Zg given,Zg ae,T,.slice p a.length v,.slice l d.length u] 43)):=Zy;obtain⟨W,C⟩:∃W,W=w.alloc (.cells #[Zg z,Zg n,Zg given,Zg ae,T,.slice p a.length v,.slice l d.length u] 43):=⟨_,rfl⟩;rw[←C]at J g;have F:=Yx C;clear I G C
 obtain⟨S,U,V,X,Y,q5,q6,q7⟩:=J;clear S U V X Y;go_enter func125,ntmps125;go_upto_region 1 with fail;rw[←F.o];clear F;go_wp2
 go_loop [5] (fun i=>∃k:Nat,k<=a.length/\i=Zg k/\Hid (∀j x,j<k->a[j]?=some x->¬x.sum=s)) (fun i=>a.length -(intOf i).toNat)
 case atStart=>exact⟨0,Nat.zero_le _,rfl,(fun j x h=>by omega)⟩
 case round=>
  obtain⟨k,R,rfl,c⟩:=hrel;by_cases hlt:k<a.length
  ·obtain⟨b,N,D,Q,q⟩:=(Ba.below M.o g).at hlt;subst D;have m:Hid (a[k]?=some a[k]):=Zv hlt;obtain⟨O,P⟩:=q k _ m.o;clear q;generalize a[k]=x at *
   by_cases h:x.sum=s
   ·have E:(x.sum.toList==s.toList)=true:=by rw[h];simp
    have B:=Yx h;clear h;go_wp2;refine bodyPost_ret (results_tmp rfl _ _ _) rfl ?_;exact Ap.yes (.inl ⟨x,Zs m.o,B.o⟩) g
   ·have E:(x.sum.toList==s.toList)=false:=Ca h;have A:Hid (∀j y,j<k+1->a[j]?=some y->¬y.sum=s):=by
     intro j y r f;rcases Nat.lt_or_ge j k with o|o
     ·exact c.o j y o f
     ·obtain rfl:j=k:=by omega
      rw[m.o]at f;cases f;exact h
    clear h;go_wp2;exact⟨⟨k+1,by omega,by go_num,A⟩,by simp[intOf];omega⟩
  ·have L:Hid (¬∃p∈a,p.sum=s):=by rintro⟨y,f,t⟩;obtain⟨j,r,rfl⟩:=List.getElem_of_mem f;exact c.o j _ (by omega) (Zv r) t
   clear c;go_wp2
   go_loop [6] (fun i=>∃k:Nat,k<=d.length/\i=Zg k/\Hid (∀j x,j<k->d[j]?=some x->¬x.sum=s)) (fun i=>d.length -(intOf i).toNat)
   case atStart=>exact⟨0,Nat.zero_le _,rfl,(fun j x h=>by omega)⟩
   case round=>
    obtain⟨k,R,rfl,c⟩:=hrel;by_cases hlt:k<d.length
    ·obtain⟨b,N,D,Q,q⟩:=(Be.below K.o g).at hlt;subst D;have m:Hid (d[k]?=some d[k]):=Zv hlt;obtain⟨O,P,c2⟩:=q k _ m.o;clear q;generalize d[k]=x at *
     by_cases h:x.sum=s
     ·have E:(x.sum.toList==s.toList)=true:=by rw[h];simp
      have B:=Yx h;clear h;go_wp2;refine bodyPost_ret (results_tmp rfl _ _ _) rfl ?_;exact Ap.yes (.inr ⟨x,Zs m.o,B.o⟩) g
     ·have E:(x.sum.toList==s.toList)=false:=Ca h;have A:Hid (∀j y,j<k+1->d[j]?=some y->¬y.sum=s):=by
       intro j y r f;rcases Nat.lt_or_ge j k with o|o
       ·exact c.o j y o f
       ·obtain rfl:j=k:=by omega
        rw[m.o]at f;cases f;exact h
      clear h;go_wp2;exact⟨⟨k+1,by omega,by go_num,A⟩,by simp[intOf];omega⟩
    ·go_wp2;refine bodyPost_ret (results_tmp rfl _ _ _) rfl ?_;refine Ap.no (fun e=> ?_) g;rcases e with e|⟨y,f,t⟩
     ·exact absurd e L.o
     ·obtain⟨j,r,rfl⟩:=List.getElem_of_mem f;exact absurd t (c.o j _ (by omega) (Zv r))
section
open Go.Proofs
theorem FR{a b:Zi}(h:a.toList=b.toList):a=b:=by rw[Lib.toList_data,Lib.toList_data]at h;cases a;cases b;simpa using h
theorem Ol{a b:Zi}:less a b=true↔a.toList<b.toList:=by unfold less;rw[bytesLess_eq,decide_eq_true_iff]
theorem Om{a b:Zi}(h:less a b=false)(c:a≠b):less b a=true:=by
 rw[Ol];have d:¬a.toList<b.toList:=fun e=>by rw[Ol.2 e]at h;cases h
 have f:=List.not_lt.1 d;by_cases e:b.toList<a.toList
 ·exact e
 ·exact absurd (FR (Std.le_antisymm (List.not_lt.1 e) f)) c
end
section
attribute [local go_sem↓] Go.wp_at_zero Go.wp_at_succ
theorem QI(k:Kd)(a g:Zk)(f b:Nat)(w:Zh)(d:Ad w w.heap.size a k.refs)(c:Ad w w.heap.size g k.refs)(m:k.refs.length<=1048576):
 Calls prog 115 #[.agg #[.string k.sum,Zg k.born,.string k.text,.slice a k.refs.length f],.agg #[.string k.sum,Zg k.born,.string k.text,.slice g k.refs.length b]] w fun e n=>e=.returned (.bool true)/\Zz w n:=by
 have h:∀i j,Zz w ((w.alloc i).alloc j):=fun i j=>(Zy).alloc (by simp) _;go_enter func115,ntmps115;go_wp2_with fail;refine(JP k.text a g f b k.refs _ (d.af (h _ _)) (c.af (h _ _)) m).mono ?_;rintro e o ⟨rfl,l⟩;go_wp2;go_ret;exact⟨rfl,(h _ _).trans (l.mono (by simp;omega))⟩
theorem SR(p:Pd)(w:Zh):
 Calls prog 116 #[.agg #[.string p.name,.string p.sum],.agg #[.string p.name,.string p.sum]] w fun e a=>e=.returned (.bool true)/\Zz w a:=by
 go_enter func116,ntmps116;go_wp2;go_ret;exact⟨rfl,(Zy).alloc (by simp) _⟩
theorem Pn(p:Ld)(w:Zh):
 Calls prog 117 #[.agg #[Zg p.num,.string p.sum,Zg p.bf],.agg #[Zg p.num,.string p.sum,Zg p.bf]] w fun e a=>e=.returned (.bool true)/\Zz w a:=by
 go_enter func117,ntmps117;go_wp2;go_ret;exact⟨rfl,(Zy).alloc (by simp) _⟩
theorem QJ(a l:Zk)(n h:Nat)(f:List Pd)(w:Zh)(g:Ba w w.heap.size a f)(d:Ba w w.heap.size l f)(G:f.length<=1048576):
 Calls prog 56 #[.slice a f.length n,.slice l f.length h] w fun e t=>e=.returned (.bool true)/\Zz w t:=by
 go_enter func56,ntmps56;go_wp2
 go_loopw [5] (fun i wr=>∃k:Nat,k<=f.length/\i=Zg k/\Zz w wr) (fun i _=>f.length -(intOf i).toNat)
 case atStart=>exact⟨0,Nat.zero_le _,rfl,Below.refl _ _⟩
 case round=>
  obtain⟨k,F,rfl,c⟩:=hrel;by_cases hlt:k<f.length
  ·obtain⟨b,v,s,E,m⟩:=(g.below c).at hlt;obtain⟨z,q,o,u,j⟩:=(d.below c).at hlt;subst s o;obtain⟨A,B⟩:=m k _ (Zv hlt);obtain⟨C,D⟩:=j k _ (Zv hlt);clear m j g d;generalize f[k]=x at *
   go_wp2;go_region_with (go_at_call 116;refine(SR x _).mono ?_;rintro e I ⟨rfl,p⟩)
   all_goals
    have r:=c.drew.trans (p.mono c.size);go_wp2;exact⟨⟨k+1,by omega,by go_num,r⟩,by simp[intOf];omega⟩
  ·go_wp2;go_ret;exact⟨rfl,c⟩
theorem On(a l:Zk)(n h:Nat)(f:List Ld)(w:Zh)(g:Be w w.heap.size a f)(d:Be w w.heap.size l f)(I:f.length<=1048576):
 Calls prog 57 #[.slice a f.length n,.slice l f.length h] w fun e t=>e=.returned (.bool true)/\Zz w t:=by
 go_enter func57,ntmps57;go_wp2
 go_loopw [5] (fun i wr=>∃k:Nat,k<=f.length/\i=Zg k/\Zz w wr) (fun i _=>f.length -(intOf i).toNat)
 case atStart=>exact⟨0,Nat.zero_le _,rfl,Below.refl _ _⟩
 case round=>
  obtain⟨k,G,rfl,c⟩:=hrel;by_cases hlt:k<f.length
  ·obtain⟨b,v,s,F,m⟩:=(g.below c).at hlt;obtain⟨z,q,o,u,j⟩:=(d.below c).at hlt;subst s o;obtain⟨A,B,c2⟩:=m k _ (Zv hlt);obtain⟨C,D,E⟩:=j k _ (Zv hlt);clear m j g d;generalize f[k]=x at *
   go_wp2;go_region_with (go_at_call 117;refine(Pn x _).mono ?_;rintro e J ⟨rfl,p⟩)
   all_goals
    have r:=c.drew.trans (p.mono c.size);go_wp2;exact⟨⟨k+1,by omega,by go_num,r⟩,by simp[intOf];omega⟩
  ·go_wp2;go_ret;exact⟨rfl,c⟩
theorem Po(a o:Zk)(r j:Nat)(d:List Kd)(w:Zh)(h:BF w w.heap.size a d)(f:BF w w.heap.size o d)(T:d.length<=1048576)(n:∀k∈d,k.refs.length<=1048576):
 Calls prog 55 #[.slice a d.length r,.slice o d.length j] w fun e G=>e=.returned (.bool true)/\Zz w G:=by
 go_enter func55,ntmps55;go_wp2
 go_loopw [5] (fun i wr=>∃k:Nat,k<=d.length/\i=Zg k/\Zz w wr) (fun i _=>d.length -(intOf i).toNat)
 case atStart=>exact⟨0,Nat.zero_le _,rfl,Below.refl _ _⟩
 case round=>
  obtain⟨k,S,rfl,c⟩:=hrel;by_cases hlt:k<d.length
  ·obtain⟨b,J,D,R,p⟩:=(h.below c).at hlt;obtain⟨K,A,s,I,l⟩:=(f.below c).at hlt;subst D s;obtain⟨L,M,c2,E,F,c3,q⟩:=p k _ (Zv hlt);obtain⟨N,O,P,v,z,Q,m⟩:=l k _ (Zv hlt);have u:=n _ (List.getElem_mem hlt);clear p l h f n;generalize d[k]=x at *
   have g:=QI x E v F z wr.drew (q.mono c.size) (m.mono c.size) u;have B:=Yx g;clear g q m;go_wp2;go_region_with (go_at_call 115;refine Calls.mono B.o ?_;rintro e U ⟨rfl,t⟩)
   all_goals
    have C:=c.drew.trans (t.mono c.size);go_wp2;exact⟨⟨k+1,by omega,by go_num,C⟩,by simp[intOf];omega⟩
  ·go_wp2;go_ret;exact⟨rfl,c⟩
theorem Pp(r g given ae:Int)(a p l s u t:Zk)(x B A j q o:Nat)(c:List Kd)(f:List Pd)(d:List Ld)(w:Zh)(h:BJ w w.heap.size a p l c f d)(b:BJ w w.heap.size s u t c f d)(z:Qt c f d):
 Calls prog 30 #[.agg (Ys r g given ae a c.length x p f.length B l d.length A),.agg (Ys r g given ae s c.length j u f.length q t d.length o)] w fun e M=>e=.returned (.bool true)/\Zz w M:=by
 have v:∀F G,Zz w ((w.alloc F).alloc G):=fun F G=>(Zy).alloc (by simp) _;have D:=Bb.below (Bb.new w r g given ae (.slice a c.length x) (.slice p f.length B) (.slice l d.length A) 43) ((Below.refl _ _).alloc (Zx) (.cells (Ys r g given ae s c.length j u f.length q t d.length o) 43))
 have E:=Bb.new (w.alloc (.cells (Ys r g given ae a c.length x p f.length B l d.length A) 43)) r g given ae (.slice s c.length j) (.slice u f.length q) (.slice t d.length o) 43;go_enter func30,ntmps30;go_wp2_with fail;refine(Po a s x j c _ (h.af (v _ _)).k (b.af (v _ _)).k z.k z.r).mono ?_;rintro e P ⟨rfl,n⟩;have k:=(v _ _).trans (n.mono (by simp;omega));obtain⟨_,_,_,_,_,N,I,O⟩:=D.below n
 obtain⟨_,_,_,_,_,J,C,K⟩:=E.below n;simp[go_sem]at J C K;clear n D E;go_wp2_with fail;refine(QJ p u B q f _ (h.af k).p (b.af k).p z.p).mono ?_;rintro e Q ⟨rfl,i⟩;have m:=k.trans (i.mono k.size);replace I:=(i.cell (p:=⟨w.heap.size,6,none⟩) O).trans I;replace C:=(i.cell (p:=⟨w.heap.size+1,6,none⟩) K).trans C;have S:=i.size;clear i N J;go_wp2_with fail
 refine(On l t A o d _ (h.af m).l (b.af m).l z.l).mono ?_;rintro e R ⟨rfl,L⟩;go_wp2;go_ret;exact⟨rfl,m.trans (L.mono m.size)⟩
end
def AY(w:Zh)(b:Nat)(ph:Int)(Q M:Value)(ag at_ ro:Int):Prop:=
 w.cell? ⟨b,0,none⟩=some (.int .i64 ph)/\w.cell? ⟨b,1,none⟩=some Q/\w.cell? ⟨b,2,none⟩=some M/\w.cell? ⟨b,3,none⟩=some (.int .i64 ag)/\
  w.cell? ⟨b,4,none⟩=some (.int .i64 at_)/\w.cell? ⟨b,5,none⟩=some (.int .i64 ro)/\b<w.heap.size
theorem AY.new(w:Zh)(b ag a c:Int)(Q M:Value)(t:TypeId):AY (w.alloc (.cells #[Zg b,Q,M,Zg ag,Zg a,Zg c] t)) w.heap.size b Q M ag a c:=
 ⟨by simp,by simp,by simp,by simp,by simp,by simp,by simp⟩
theorem AY.ak{w g:Zh}{b B:Nat}{e ag d f:Int}{Q M:Value}(h:AY w b e Q M ag d f)(a:Below B w g)(c:b<B):AY g b e Q M ag d f:=by
 obtain⟨i,j,k,l,m,n,o⟩:=h;exact⟨(a.cell (p:=⟨b,0,none⟩) c).trans i,(a.cell (p:=⟨b,1,none⟩) c).trans j,(a.cell (p:=⟨b,2,none⟩) c).trans k,(a.cell (p:=⟨b,3,none⟩) c).trans l,
  (a.cell (p:=⟨b,4,none⟩) c).trans m,(a.cell (p:=⟨b,5,none⟩) c).trans n,Zr o a.size⟩
theorem AY.below{w e:Zh}{b:Nat}{c ag a d:Int}{Q M:Value}(h:AY w b c Q M ag a d)(f:Zz w e):AY e b c Q M ag a d:=h.ak f h.2.2.2.2.2.2
theorem Qa(a:Zk)(d:Nat)(b:Zl)(left:Int)(w:Zh)(B:Nat)(c:Ad w B a b)(j:b.length<=maxLen)(k:∀s∈b,s.size<=maxLen)(i:0<=left)(g:left<=1048576):
 Calls prog 20 #[.slice a b.length d,Zg left] w fun e f=>∃r:Int,e=.returned (Zg r)/\f=w/\r<=left/\(0<=r->b.length<=1048576):=by
 by_cases hfit:(b.length:Int)+aq b<=left
 ·refine(Ik a d b left w B c g hfit).mono ?_;rintro e f ⟨rfl,rfl⟩;exact⟨_,rfl,rfl,by omega,fun _=>by omega⟩
 ·refine(KB a d b left w B c j k i g (by omega)).mono ?_;rintro e f ⟨rfl,rfl⟩;exact⟨_,rfl,rfl,by omega,fun h=>by omega⟩
structure FT (qs ms:Zl):Prop where
 q:qs.length<=1048576
 m:ms.length<=1048576
theorem Pq(l ag f o:Int)(a b i j:Zk)(q r g h:Nat)(d c:Zl)(w:Zh)(z:Ad w w.heap.size a d)(x:Ad w w.heap.size b c)(v:Ad w w.heap.size i d)(u:Ad w w.heap.size j c)(t:FT d c):
 Calls prog 31 #[.agg (Yr l a d.length q b c.length r ag f o),.agg (Yr l i d.length g j c.length h ag f o)] w fun e s=>e=.returned (.bool true)/\Zz w s:=by
 have k:Below w.heap.size w ((w.alloc (.cells (Yr l a d.length q b c.length r ag f o) 44)).alloc (.cells (Yr l i d.length g j c.length h ag f o) 44)):=(Zy).alloc (by simp) _;go_enter func31,ntmps31;go_wp2_with fail;refine(Im a i q g d _ _ _ (z.below k) (v.below k) t.q).mono ?_;rintro e s ⟨rfl,n,rfl⟩;have p:=Cf k n;go_wp2_with fail;refine(Im b j r h c _ _ _ (x.below p) (u.below p) t.m).mono ?_
 rintro e s ⟨rfl,m,rfl⟩;go_wp2;go_ret;exact⟨rfl,Cf k (n+m)⟩
theorem Pr(q ag n s:Int)(a b:Zk)(A B:Nat)(c j:Zl)(w:Zh)(V:Ad w w.heap.size a c)(U:Ad w w.heap.size b j)(Q:FT c j):
 Calls prog 25 #[.agg #[.int .i64 q,.slice a c.length A,.slice b j.length B,.int .i64 ag,.int .i64 n,.int .i64 s]] w fun e M=>∃g k,e=.returned (.agg #[.int .i64 q,.slice (some ⟨g,0,none⟩) c.length c.length,.slice (some ⟨k,0,none⟩) j.length j.length,.int .i64 ag,.int .i64 n,.int .i64 s])/\w.heap.size<=g/\g<k/\
  M.ownsRow w.heap.size 9 1 (.slice (some ⟨g,0,none⟩) c.length c.length) c.length (c.map Value.string)/\
  M.ownsRow w.heap.size 9 1 (.slice (some ⟨k,0,none⟩) j.length j.length) j.length (j.map Value.string)/\Zz w M:=by
 have x:Below w.heap.size w (((w.alloc (.cells #[.int .i64 q,.slice a c.length A,.slice b j.length B,.int .i64 ag,.int .i64 n,.int .i64 s] 31)).alloc (.cells #[.int .i64 0,.slice none 0 0,.slice none 0 0,.int .i64 0,.int .i64 0,.int .i64 0] 44)).alloc (.cells #[.int .i64 q,.slice none 0 0,.slice none 0 0,.int .i64 0,.int .i64 0,.int .i64 0] 44)):=((Zy).alloc (by simp) _).alloc (by simp;omega) _
 go_enter func25,ntmps25;go_wp2_with fail;refine(Il a A c _ (V.af x) Q.q).mono ?_;rintro e R ⟨g,rfl,S,r,C⟩;have D:=x.trans (C.mono (by simp;omega));obtain⟨d,z⟩:=JC C;have X:=C.size;simp at X S;go_wp2_with fail;obtain⟨l,h⟩:∃l,l=R.setCell ⟨w.heap.size+1+1,1,none⟩ (.slice (some ⟨g,0,none⟩) c.length c.length):=⟨_,rfl⟩;have t:Below w.heap.size w l:=by rw[h];exact D.setCell (by simp;omega) _
 have zC:l.heap.size=R.heap.size:=by rw[h];simp
 have u:l.ownsRow (w.heap.size+3) 9 1 (.slice (some ⟨g,0,none⟩) c.length c.length) c.length (c.map Value.string):=by rw[h];exact(ownsRow_setCell_below r (by simp) _).mono (by simp)
 have I:AY l (w.heap.size+1+1) q (.slice (some ⟨g,0,none⟩) c.length c.length) (.slice none 0 0) 0 0 0:=by rw[h];exact⟨by simp[go_sem,d],by simp[go_sem,d],by simp[go_sem,d],by simp[go_sem,d],by simp[go_sem,d],by simp[go_sem,d],by simp;omega⟩
 have J:AY l (w.heap.size+1) 0 (.slice none 0 0) (.slice none 0 0) 0 0 0:=by rw[h];exact⟨by simp[go_sem,d],by simp[go_sem,d],by simp[go_sem,d],by simp[go_sem,d],by simp[go_sem,d],by simp[go_sem,d],by simp;omega⟩
 have K:AY l w.heap.size q (.slice a c.length A) (.slice b j.length B) ag n s:=by rw[h];exact⟨by simp[go_sem,d],by simp[go_sem,d],by simp[go_sem,d],by simp[go_sem,d],by simp[go_sem,d],by simp[go_sem,d],by simp;omega⟩
 have P:∀o,l.frozen? ⟨w.heap.size+1+1,o,none⟩=false:=fun o=>by rw[h];simp[go_sem,z]
 have O:∀o,l.frozen? ⟨w.heap.size+1,o,none⟩=false:=fun o=>by rw[h];simp[go_sem,z]
 rw[←h];clear h r C d z;refine(Il b B j _ (U.af t) Q.m).mono ?_;rintro e N ⟨k,rfl,hk,m,f⟩;have zB:=f.size;obtain⟨x0,x1,x2,x3,x4,x5,x6⟩:=I.below f;obtain⟨Y,Z,y2,y3,y4,y5,y6⟩:=J.below f;obtain⟨v0,v1,v2,v3,v4,v5,v6⟩:=K.below f;replace P:∀o,N.frozen? ⟨w.heap.size+1+1,o,none⟩=false:=fun o=>(f.frozen (p:=⟨w.heap.size+1+1,o,none⟩) (by simp;omega)).trans (P o)
 replace O:∀o,N.frozen? ⟨w.heap.size+1,o,none⟩=false:=fun o=>(f.frozen (p:=⟨w.heap.size+1,o,none⟩) (by simp;omega)).trans (O o);have zA:=(u.lt g rfl).2;have F:N.ownsRow (w.heap.size+3) 9 1 (.slice (some ⟨g,0,none⟩) c.length c.length) c.length (c.map Value.string):=u.kept (row:=none) ⟨f.os,f.tape,f.output,f.size,fun i T _=>f.block i T⟩ (.inr (by simp[Value.ownBlock]))
 have G:=m.mono (show w.heap.size+3<=l.heap.size by omega);have E:=t.trans (f.mono (by omega));have L:Hid _:=Zn F (Zn G E);clear F G E m u I J K f D t x;go_wp2
 refine bodyPost_ret (v:=.agg #[.int .i64 q,.slice (some ⟨g,0,none⟩) c.length c.length,.slice (some ⟨k,0,none⟩) j.length j.length,.int .i64 ag,.int .i64 n,.int .i64 s]) (by simp[results,results25,go_sem,Y,Z,y2,y3,y4,y5]) rfl ⟨g,k,rfl,by omega,by omega,?_,?_,?_⟩
 ·refine World.ownsRow.mono ?_ (show w.heap.size<=w.heap.size+3 by omega)
  iterate 10 (refine ownsRow_setCell_below ?_ (by simp) _)
  exact L.o.1
 ·refine World.ownsRow.mono ?_ (show w.heap.size<=w.heap.size+3 by omega)
  iterate 10 (refine ownsRow_setCell_below ?_ (by simp) _)
  exact L.o.2.1
 ·iterate 10 (refine Below.setCell ?_ (by simp<;>omega) _)
  exact L.o.2.2
section
attribute [local go_sem↓] Go.wp_at_zero Go.wp_at_succ
theorem Ps(A ag p D:Int)(q a:Zk)(C B z:Nat)(d:Zl)(w:Zh)(m:Ad w w.heap.size a d)(hl:d.length<=1048576):
 Calls prog 163 #[.agg (Yr A q C B a d.length z ag p D)] w fun e I=>∃b c f,e=.returned (.map (some b))/\w.heap.size<=b/\Dc I 191 b d.length c f/\MK d f c/\Zz w I:=by
 have N:= @run_makeMap prog;go_enter func163,ntmps163;go_wp2;obtain⟨o,h⟩:∃W,W=(w.alloc (Obj.cells (Yr A q C B a d.length z ag p D) 44)).alloc (Obj.map #[] 0):=⟨_,rfl⟩;have K:Below w.heap.size w o:=by rw[h];exact(Zy).alloc (by simp) _
 have U:o.heap.size=w.heap.size+2:=by rw[h];simp
 have L:Dc o 191 (w.heap.size+1) 0 0 (fun _=>none):=by have:=Dc.new (w.alloc (Obj.cells (Yr A q C B a d.length z ag p D) 44)) 191;rw[h];rw[World.size_alloc]at this;exact this
 rw[←h];clear h N
 go_loopw [10] (fun i wr=>∃(k c:Nat) (f:Lit->Option Value),k<=d.length/\i=Zg k/\Hid (Dc wr 191 (w.heap.size+1) k c f)/\Hid (MK (d.take k) f c)/\o.grownBy wr (some (w.heap.size+1))) (fun i _=>d.length -(intOf i).toNat)
 case atStart=>exact⟨0,0,_,Nat.zero_le _,rfl,L,by rw[List.take_zero];exact MK.nil,EJ _ _⟩
 case round=>
  obtain⟨k,c,f,hk,rfl,F,s,r⟩:=hrel;have l:Below w.heap.size w wr:=K.grown r (by omega) (by intro j Q;cases Q;omega);have V:=r.size;by_cases hlt:k<d.length
  ·obtain⟨b,X,P,Z,G⟩:=(m.below l).at hlt;subst P;have E:Hid (d[k]?=some d[k]):=Zv hlt;have Y:=G k _ E.o;clear G m;generalize d[k]=x at *
   obtain⟨n,R,O,u,_⟩:=s.o.get (keyL x);have v:(d.take k).length=k:=by simp;omega
   rw[v]at u;have T:IntKind.i64.wrap (n+1)=n+1:=Iw (by omega) (by omega);go_wp2;go_region_with (first
    |(go_at_call 156;refine(Ip x _).mono ?_;rintro e S ⟨rfl,t⟩;have g:Below wr.heap.size wr S:=(Below.refl _ _).drew.trans (t.mono (by simp));obtain⟨st,w3,w4,he,hl1,hl3,hs4,hm4,hg3,hg4⟩:=(F.o.ak g (by omega)).bump keyed underlying226 (by unfold maxLen;omega) Wa (EM x) (Zg (n+1));rw[R]at he hl1 hl3;unfold goInt at he hs4))
   all_goals
    have M:o.grownBy w4 (some (w.heap.size+1)):=Aw r (Aw (AA _ g) hg4);have HN:Hid (MK (d.take (k+1)) (upd f (keyL x) (Zg (n+1))) (if (f (keyL x)).isSome then c else c+1)):=by have:=s.o.snoc x O (by rw[v];exact u);rw[List.take_add_one,E.o];exact this
    have J:=Yx hm4;clear hm4 he hl1 hl3 hs4 hg3 hg4 g t;go_wp2;exact⟨⟨k+1,_,_,by omega,by go_num,J,HN,M⟩,by simp[intOf];omega⟩
  ·rw[Zt (by omega)]at s;obtain rfl:k=d.length:=by omega
   go_wp2;go_ret;exact⟨_,c,f,rfl,by omega,F.o,s.o,l⟩
end
section
attribute [local go_sem↓] Go.wp_at_zero Go.wp_at_succ
theorem SV(s:Zi)(a:Int)(b:Nat)(w:Zh)(f:w.cell? (Ze b 0)=some (Zg a)):
 Calls prog 161 #[.string s,Yz b] w fun e d=>e=.returned (.bool (!decide ((s.size:Int)=a)))/\d=w:=by
 go_enter func161,ntmps161;by_cases h:(s.size:Int)=a
 ·have c:((s.size:Int) !=a)=false:=by simp[h]
  go_wp2;go_ret;exact⟨by simp[h],rfl⟩
 ·have c:((s.size:Int) !=a)=true:=by simp[h]
  go_wp2;go_ret;exact⟨by simp[h],rfl⟩
theorem Na(a:Zk)(t b:Nat)(c:Zl)(d:Int)(w:Zh)(B:Nat)(g:Ad w B a c)(I:c.length<=1048576)(z:w.cell? (Ze b 0)=some (Zg d)):
 Calls prog 193 #[.slice a c.length t,.func (.func 161) #[] #[Yz b]] w fun e A=>∃r:Int,e=.returned (Zg r)/\(0<=r↔∃s∈c,¬(s.size:Int)=d)/\A=w:=by
 go_enter func193,ntmps193;go_wp2
 go_loop [8] (fun i=>∃k:Nat,k<=c.length/\i=Zg k/\Hid (∀j x,j<k->c[j]?=some x->(x.size:Int)=d)) (fun i=>c.length -(intOf i).toNat)
 case atStart=>exact⟨0,Nat.zero_le _,rfl,fun j x h=>by omega⟩
 case round=>
  obtain⟨k,G,rfl,f⟩:=hrel;by_cases hlt:k<c.length
  ·obtain⟨D,C,v,F,l⟩:=g.at hlt;subst v;have n:=Yx (Zv hlt);have E:=l k _ n;clear l g;generalize c[k]=x at *
   go_wp2_with fail;refine(SV x d b w z).mono ?_;rintro e J ⟨rfl,rfl⟩;by_cases h:(x.size:Int)=d
   ·have u:Hid (∀j y,j<k+1->c[j]?=some y->(y.size:Int)=d):=by
     intro j y q o;rcases Nat.lt_or_ge j k with p|p
     ·exact f j y p o
     ·obtain rfl:j=k:=by omega
      rw[n.o]at o;cases o;exact h
    have m:decide ((x.size:Int)=d)=true:=by simp[h]
    rw[m];go_wp2;exact⟨⟨k+1,by omega,by go_num,u⟩,by simp[intOf];omega⟩
   ·have m:decide ((x.size:Int)=d)=false:=by simp[h]
    rw[m];go_wp2;go_ret;exact⟨_,rfl,⟨fun _=>⟨x,Zs n.o,h⟩,fun _=>by omega⟩,rfl⟩
  ·go_wp2;go_ret;refine⟨_,rfl,⟨fun h=>by omega,fun⟨s,hs,h⟩=> ?_⟩,rfl⟩;obtain⟨j,q,rfl⟩:=List.getElem_of_mem hs;exact absurd (f j _ (by omega) (Zv q)) h
open Classical in
theorem Hd(a:Zk)(g b:Nat)(c:Zl)(d:Int)(w:Zh)(B:Nat)(f:Ad w B a c)(m:c.length<=1048576)(k:w.cell? (Ze b 0)=some (Zg d)):
 Calls prog 162 #[.slice a c.length g,.func (.func 161) #[] #[Yz b]] w fun e n=>e=.returned (.bool (decide (∃s∈c,¬(s.size:Int)=d)))/\n=w:=by
 go_enter func162,ntmps162;go_wp2_with fail;refine(Na a g b c d w B f m k).mono ?_;rintro e o ⟨r,rfl,i,rfl⟩;by_cases h:0<=r
 ·have l:decide ((0:Int)<=r)=true:=by simpa using h
  go_wp2;go_ret;exact⟨by simp[i.1 h],rfl⟩
 ·have l:decide ((0:Int)<=r)=false:=by simpa using h
  have j:¬∃s∈c,¬(s.size:Int)=d:=fun e=>h (i.2 e);go_wp2;go_ret;exact⟨by rw[decide_eq_false j];rfl,rfl⟩
structure Oo (wd:Int) (qs ms:Zl):Prop where
 nq:qs.length<=23200
 nm:ms.length<=600
 q:∀s∈qs,(s.size:Int)=wd
 m:∀s∈ms,(s.size:Int)=wd
 nd:ms.Nodup
theorem QM{i:Int}{a:Zl}(l:i<=8)(d:∀s∈a,(s.size:Int)=i):(a.map keyL).Nodup↔a.Nodup:=by
 induction a with
 |nil=>simp
 |cons x r f=>
  have f:=f (fun s j=>d s (by simp[j]));simp only[List.map_cons,List.nodup_cons,f];have m:=d x (by simp);constructor
  ·rintro⟨b,c⟩;exact⟨fun h=>b (List.mem_map.2 ⟨x,h,rfl⟩),c⟩
  ·rintro⟨b,c⟩;refine⟨fun h=> ?_,c⟩;obtain⟨y,g,e⟩:=List.mem_map.1 h;have k:=d y (by simp[g]);have:y=x:=key_inj e (by omega) (by omega);subst this;exact b g
theorem Nb(n ag j o g:Int)(a b:Zk)(l m:Nat)(d c:Zl)(w:Zh)(P:Ad w w.heap.size a d)(E:Ad w w.heap.size b c)(r:FT d c)(O:g<=8):
 Calls prog 138 #[.agg (Yr n a d.length l b c.length m ag j o),Zg g] w fun e R=>Ap (Oo g d c) w R e:=by
 have V:=r.q;have U:=r.m;have i:Below w.heap.size w ((w.alloc (.cells (Yr n a d.length l b c.length m ag j o) 44)).alloc (.cells #[Zg g] 3)):=(Zy).alloc (by simp) _;go_enter func138,ntmps138;by_cases h1:d.length<=23200
 ·have L:decide ((23200:Int)<(d.length:Int))=false:=by simp;omega
  by_cases h2:c.length<=600
  ·have M:decide ((600:Int)<(c.length:Int))=false:=by simp;omega
   go_wp2_with fail;refine(Hd a l _ d g _ w.heap.size (P.below i) r.q (by simp[go_sem])).mono ?_;rintro e w1 ⟨rfl,rfl⟩;by_cases h3:∃s∈d,¬(s.size:Int)=g
   ·rw[decide_eq_true h3];go_wp2;go_ret;exact Ap.no (fun h=>by obtain⟨s,k,B⟩:=h3;exact B (h.q s k)) i
   ·rw[decide_eq_false h3];go_wp2_with fail;refine(Hd b m _ c g _ w.heap.size (E.below i) r.m (by simp[go_sem])).mono ?_;rintro e F ⟨rfl,rfl⟩;by_cases h4:∃s∈c,¬(s.size:Int)=g
    ·rw[decide_eq_true h4];go_wp2;go_ret;exact Ap.no (fun h=>by obtain⟨s,k,B⟩:=h4;exact B (h.m s k)) i
    ·rw[decide_eq_false h4];have z:∀s∈d,(s.size:Int)=g:=fun s k=>Classical.byContradiction fun h=>h3 ⟨s,k,h⟩;have v:∀s∈c,(s.size:Int)=g:=fun s k=>Classical.byContradiction fun h=>h4 ⟨s,k,h⟩;have A:=Yx (Zn z v);clear z v h3 h4;go_wp2_with fail;obtain⟨W,C⟩:∃W,W=((w.alloc (.cells (Yr n a d.length l b c.length m ag j o) 44)).alloc (.cells #[Zg g] 3)):=⟨_,rfl⟩
     have t:AY W w.heap.size n (.slice a d.length l) (.slice b c.length m) ag j o:=by rw[C];exact(AY.new w n ag j o _ _ 44).below (Zy)
     rw[←C]at i ⊢;have Y:=Yx t;have G:=Yx (E.af i);obtain⟨x0,x1,S,x3,x4,x5,T⟩:=t;clear C;go_region_with (first
      |(go_at_call 163;refine(Ps n ag j o a b d.length l m c W.drew G.o (by omega)).mono ?_;rintro e F ⟨Z,K,f,rfl,X,u,x,q⟩;have hlen:=fun Q=>u.len underlying226 Q;have y2:=(q.cell (p:=⟨w.heap.size,2,none⟩) T).trans S))
     all_goals
      have I:Hid (Zz w F):=(i.drew.trans (q.mono i.size));have J:=Yx x;clear hlen u x q;go_wp2;go_ret;refine⟨_,rfl,?_,I.o⟩;have D:=J.o.all;rw[QM O A.o.2]at D;have N:(K:Int)=c.length↔c.Nodup:=by rw[←D];omega
      simp only[beq_iff_eq,N];exact⟨fun h=>⟨h1,h2,A.o.1,A.o.2,h⟩,fun h=>h.nd⟩
  ·have M:decide ((600:Int)<(c.length:Int))=true:=by simp;omega
   go_wp2;go_ret;exact Ap.no (fun h=>h2 h.nm) i
 ·have L:decide ((23200:Int)<(d.length:Int))=true:=by simp;omega
  go_wp2;go_ret;exact Ap.no (fun h=>h1 h.nq) i
end
theorem Hw(n lo a:Int)(w:Zh):
 Calls prog 69 #[Zg n,Zg lo,Zg a] w fun e b=>e=.returned (.bool (decide (lo<=n/\n<=a)))/\b=w:=by
 by_cases h1:lo<=n
 ·by_cases h2:n<=a
  ·go_enter func69,ntmps69;go_wp2;go_ret;exact⟨Av (by simp[h1,h2]),rfl⟩
  ·go_enter func69,ntmps69;go_wp2;go_ret;exact⟨Av (by simp[h2]),rfl⟩
 ·have c:decide (lo<=n)=false:=by simpa using h1
  go_enter func69,ntmps69;go_wp2;go_ret;exact⟨Av (by simp),rfl⟩
theorem SW(n:Int)(w:Zh):
 Calls prog 137 #[Zg n] w fun e a=>e=.returned (.bool (decide (0<=n/\n<=1000000000)))/\a=w:=by
 by_cases h1:0<=n
 ·by_cases h2:n<=1000000000
  ·go_enter func137,ntmps137;go_wp2;go_ret;exact⟨Av (by simp[h1,h2]),rfl⟩
  ·have c:decide (n<=1000000000)=false:=by simpa using h2
   go_enter func137,ntmps137;go_wp2;go_ret;exact⟨rfl,rfl⟩
 ·have b:decide (0<=n)=false:=by simpa using h1
  go_enter func137,ntmps137;go_wp2;go_ret;exact⟨rfl,rfl⟩
section
attribute [local go_sem↓] Go.wp_at_zero Go.wp_at_succ
def EC(ae ph ag at_:Int)(qs ms:Zl):Prop:=
 (ph=0/\qs=[]/\ms=[]/\ag=0/\at_=0)∨(ph=1/\0<=ag/\ag<=ae/\at_=ag+1)∨(ph=2/\0<=ag/\ag<=ae/\1<=at_/\at_<=ag+1)
structure AX (wd ae ph ag at_ ro:Int) (qs ms:Zl):Prop where
 ij:0<=ro
 ik:ro<=1000000000
 dy:Oo wd qs ms
 ph:EC ae ph ag at_ qs ms
theorem LL(k ag c i j ae:Int)(a b:Zk)(q r:Nat)(g f:Zl)(w:Zh)(F:Ad w w.heap.size a g)(E:Ad w w.heap.size b f)(z:FT g f)(D:j<=8)(I:ae<=1000000000):
 Calls prog 102 #[.agg (Yr k a g.length q b f.length r ag c i),Zg j,Zg ae] w fun e G=>Ap (AX j ae k ag c i g f) w G e:=by
 have K:=z.q;have J:=z.m;have s:Below w.heap.size w (w.alloc (.cells (Yr k a g.length q b f.length r ag c i) 44)):=Zy;have A:=AY.new w k ag c i (.slice a g.length q) (.slice b f.length r) 44;go_enter func102,ntmps102;go_wp2_with fail;refine(SW i _).mono ?_;rintro e O ⟨rfl,rfl⟩;by_cases h1:0<=i/\i<=1000000000
 ·rw[decide_eq_true h1];go_wp2_with fail;refine(Nb k ag c i j a b q r g f _ (F.af s) (E.af s) z D).mono ?_;rintro e Q ⟨C,rfl,p,o⟩;have d:=s.trans (o.mono (by simp));obtain⟨R,S,T,U,V,X,Y⟩:=A.below o;clear o A;cases C with
  |false=>go_wp2;go_ret;exact Ap.no (fun h=>by have:=p.2 h.dy;cases this) d
  |true=>
   have m:=p.1 rfl;have x:=Yx m;clear p m;by_cases p0:k=0
   ·subst p0;by_cases e1:g.length=0
    ·by_cases e2:f.length=0
     ·by_cases e3:ag=0
      ·by_cases e4:c=0
       ·go_wp2;go_ret;exact Ap.yes ⟨h1.1,h1.2,x.o,.inl ⟨rfl,List.eq_nil_of_length_eq_zero e1,List.eq_nil_of_length_eq_zero e2,e3,e4⟩⟩ d
       ·have v:(c==0)=false:=by simpa using e4
        go_wp2;go_ret;exact Ap.no (P:=AX j ae 0 ag c i g f) (fun h=>by have:=h.ph;unfold EC at this;simp at this;have l:=this.2.2.2;omega) d
      ·have n:(ag==0)=false:=by simpa using e3
       go_wp2;go_ret;exact Ap.no (fun h=>by have:=h.ph;unfold EC at this;simp at this;have l:=this.2.2.1;omega) d
     ·have u:((f.length:Int)==0)=false:=beq_eq_false_iff_ne.2 (by omega);go_wp2;go_ret;exact Ap.no (fun h=>by have:=h.ph;unfold EC at this;simp at this;exact e2 (by rw[this.2.1];rfl)) d
    ·have t:((g.length:Int)==0)=false:=beq_eq_false_iff_ne.2 (by omega);go_wp2;go_ret;exact Ap.no (fun h=>by have:=h.ph;unfold EC at this;simp at this;exact e1 (by rw[this.1];rfl)) d
   ·have L:(k==0)=false:=by simpa using p0
    by_cases p1:k=1
    ·subst p1;by_cases e1:0<=ag
     ·by_cases e2:ag<=ae
      ·have B:IntKind.i64.wrap (ag+1)=ag+1:=Iw (by omega) (by omega);by_cases e3:c=ag+1
       ·have n:(c==ag+1)=true:=by simpa using e3
        go_wp2;go_ret;exact Ap.yes (P:=AX j ae 1 ag c i g f) ⟨h1.1,h1.2,x.o,.inr (.inl ⟨rfl,e1,e2,e3⟩)⟩ d
       ·have n:(c==ag+1)=false:=by simpa using e3
        go_wp2;go_ret;exact Ap.no (P:=AX j ae 1 ag c i g f) (fun h=>by have:=h.ph;unfold EC at this;simp at this;have l:=this.2.2;omega) d
      ·have u:decide (ag<=ae)=false:=by simpa using e2
       go_wp2;go_ret;exact Ap.no (P:=AX j ae 1 ag c i g f) (fun h=>by have:=h.ph;unfold EC at this;simp at this;have l:=this.2.1;omega) d
     ·have t:decide (0<=ag)=false:=by simpa using e1
      go_wp2;go_ret;exact Ap.no (P:=AX j ae 1 ag c i g f) (fun h=>by have:=h.ph;unfold EC at this;simp at this;have l:=this.1;omega) d
    ·have M:(k==1)=false:=by simpa using p1
     by_cases p2:k=2
     ·subst p2;by_cases e1:0<=ag
      ·by_cases e2:ag<=ae
       ·have B:IntKind.i64.wrap (ag+1)=ag+1:=Iw (by omega) (by omega);by_cases e3:1<=c
        ·by_cases e4:c<=ag+1
         ·have v:decide (c<=ag+1)=true:=by simpa using e4
          go_wp2;go_ret;exact Ap.yes (P:=AX j ae 2 ag c i g f) ⟨h1.1,h1.2,x.o,.inr (.inr ⟨rfl,e1,e2,e3,e4⟩)⟩ d
         ·have v:decide (c<=ag+1)=false:=by simpa using e4
          go_wp2;go_ret;exact Ap.no (P:=AX j ae 2 ag c i g f) (fun h=>by have:=h.ph;unfold EC at this;simp at this;have l:=this.2.2.2;omega) d
        ·have n:decide (1<=c)=false:=by simpa using e3
         go_wp2;go_ret;exact Ap.no (P:=AX j ae 2 ag c i g f) (fun h=>by have:=h.ph;unfold EC at this;simp at this;have l:=this.2.2.1;omega) d
       ·have u:decide (ag<=ae)=false:=by simpa using e2
        go_wp2;go_ret;exact Ap.no (P:=AX j ae 2 ag c i g f) (fun h=>by have:=h.ph;unfold EC at this;simp at this;have l:=this.2.1;omega) d
      ·have t:decide (0<=ag)=false:=by simpa using e1
       go_wp2;go_ret;exact Ap.no (P:=AX j ae 2 ag c i g f) (fun h=>by have:=h.ph;unfold EC at this;simp at this;have l:=this.1;omega) d
     ·have N:(k==2)=false:=by simpa using p2
      go_wp2;go_ret;exact Ap.no (P:=AX j ae k ag c i g f) (fun h=>by rcases h.ph with h|h|h;exact p0 h.1;exact p1 h.1;exact p2 h.1) d
 ·rw[decide_eq_false h1];go_wp2;go_ret;exact Ap.no (fun h=>h1 ⟨h.ij,h.ik⟩) s
end
theorem Nc(o ag h q:Int)(a b:Zk)(n m c d k:Nat)(w:Zh)(u:Ad w w.heap.size a (marks k n))(v:Ad w w.heap.size b (marks (k+n) m))(x:1<=k)(A:k+n+m<=100000000):
 Calls prog 64 #[.agg (Yr o a n c b m d ag h q),Zg k] w fun e z=>e=.returned (Zg (k+n+m))/\Zz w z:=by
 have l:Below w.heap.size w (w.alloc (.cells (Yr o a n c b m d ag h q) 44)):=Zy;have B:¬((k:Int)+n<0):=by omega
 have t:¬((k:Int)+n+m<0):=by omega
 go_enter func64,ntmps64;go_wp2_with fail;refine(Gk a n c k w.heap.size _ (u.below l) (by simp) x (by omega)).mono ?_;rintro e r ⟨rfl,i⟩;have g:=l.trans (i.mono (by simp));have j:r.cell? (Ze (w.heap.size) 2)=some (.slice b m d):=by rw[i.cell (p:=⟨w.heap.size,2,none⟩) (by simp)];simp
 have f:=Gk b m d (k+n) w.heap.size r (v.below g) g.size (by omega) (by omega);rw[show((k+n:Nat):Int)=(k:Int)+n from by omega]at f;go_wp2_with fail;refine f.mono ?_;rintro e C ⟨rfl,s⟩;go_wp2;go_ret;exact⟨rfl,g.trans (s.mono g.size)⟩
theorem AY.grown{w f:Zh}{b q:Nat}{d ag c e:Int}{Q M:Value}(h:AY w b d Q M ag c e)(a:w.grownBy f (some q))(n:b≠q):AY f b d Q M ag c e:=by obtain⟨g,i,j,k,l,m,p⟩:=h;have o:=a.size;exact⟨a.cell g (by simp;omega),a.cell i (by simp;omega),a.cell j (by simp;omega),a.cell k (by simp;omega),a.cell l (by simp;omega),a.cell m (by simp;omega),by omega⟩
theorem El(q ag i r:Int)(g h C A:Nat)(a d:Zl)(w:Zh)(hq:Ad w w.heap.size (some ⟨g,0,none⟩) a)(hm:Ad w w.heap.size (some ⟨h,0,none⟩) d)(hf:FT a d):
 Calls prog 76 #[.agg (Yr q (some ⟨g,0,none⟩) a.length C (some ⟨h,0,none⟩) d.length A ag i r)] w fun e X=>∃x j y B,e=.returned (.agg (Yr q (some ⟨x,0,none⟩) a.length j (some ⟨y,0,none⟩) d.length B ag i r))/\
  X.ownsRow w.heap.size 9 1 (Za x a.length j) a.length (a.map Value.string)/\X.ownsRow w.heap.size 9 1 (Za y d.length B) d.length (d.map Value.string)/\x≠y/\Zz w X:=by
 have zF:=hf.q;have zE:=hf.m;obtain⟨i0,hi,R,S,T⟩:=info_parts CP;obtain⟨W,n⟩:∃W,W=((w.alloc (.cells (Yr q (some ⟨g,0,none⟩) a.length C (some ⟨h,0,none⟩) d.length A ag i r) 44)).alloc (.cells Yq 44)).alloc (.cells (Yr q (some ⟨g,0,none⟩) a.length C (some ⟨h,0,none⟩) d.length A ag i r) 44):=⟨_,rfl⟩;have t:Below w.heap.size w W:=by rw[n];exact((Zy).alloc (by simp) _).alloc (by simp;omega) _
 have x2:AY W (w.heap.size+1+1) q (Za g a.length C) (Za h d.length A) ag i r:=by rw[n];exact⟨by simp[go_sem],by simp[go_sem],by simp[go_sem],by simp[go_sem],by simp[go_sem],by simp[go_sem],by simp⟩
 have x1:AY W (w.heap.size+1) 0 Zc Zc 0 0 0:=by rw[n];exact⟨by simp[go_sem],by simp[go_sem],by simp[go_sem],by simp[go_sem],by simp[go_sem],by simp[go_sem],by simp<;>omega⟩
 have x0:AY W w.heap.size q (Za g a.length C) (Za h d.length A) ag i r:=by rw[n];exact⟨by simp[go_sem],by simp[go_sem],by simp[go_sem],by simp[go_sem],by simp[go_sem],by simp[go_sem],by simp<;>omega⟩
 have f2:∀o,W.frozen? ⟨w.heap.size+1+1,o,none⟩=false:=fun o=>by rw[n];simp[go_sem]
 have f1:∀o,W.frozen? ⟨w.heap.size+1,o,none⟩=false:=fun o=>by rw[n];simp[go_sem]
 have zC:W.heap.size=w.heap.size+3:=by rw[n];simp
 have Z:=Yx n;clear n;go_enter func76,ntmps76;go_wp2_with (first
  |(at_builtin;refine wpList_append_own _ rfl _ _ 22 rfl (w.heap.size+3) 9 i0 Zd 1 16 underlying22 hi R S T rfl (by decide) _ 0 (([]:Zl).map Value.string) rfl ?d0 ⟨g,0,none⟩ a.length C (a.map Value.string) rfl ?d1 ?d2 ?d3 ?d4 ?d5 ?d6 ?_)
  |go_in)
 all_goals try rw[←Z.o]
 case d0=>
  have:=World.ownsRow_lit (base:=w.heap.size+3) (e:=9) (size:=1) W #[] 0 (by omega) (by unfold maxLen;omega) rfl;rw[zC]at this;exact this
 case d1=>simp
 case d2=>exact(hq.below (t.alloc t.size _)).ck
 case d3=>exact NF a
 case d4=>unfold maxLen;omega
 case d5=>omega
 case d6=>simp;omega
 intro v1 l u E M;have F:∃x j,v1=Za x a.length j:=by have:=Kk u M;simpa using this
 obtain⟨x,j,rfl⟩:=F;try simp only[Nat.zero_add,List.map_nil,List.nil_append]at u
 have I:=E.size;have b:(W.alloc (.cells #[] 9)).grownBy l (some (w.heap.size+3)):=by simpa [Value.ownBlock]using E
 have f:Below W.heap.size W (W.alloc (.cells #[] 9)):=Zy;have y0:=(x0.below f).grown b (by omega);have y1:=(x1.below f).grown b (by omega);have y2:=(x2.below f).grown b (by omega);have e2:∀o,l.frozen? ⟨w.heap.size+1+1,o,none⟩=false:=fun o=>(b.frozen_far ⟨w.heap.size+1+1,o,none⟩ (by simp<;>omega) (by simp<;>omega)).trans ((f.frozen (p:=⟨w.heap.size+1+1,o,none⟩) (by simp<;>omega)).trans (f2 o))
 have e1:∀o,l.frozen? ⟨w.heap.size+1,o,none⟩=false:=fun o=>(b.frozen_far ⟨w.heap.size+1,o,none⟩ (by simp<;>omega) (by simp<;>omega)).trans ((f.frozen (p:=⟨w.heap.size+1,o,none⟩) (by simp<;>omega)).trans (f1 o));have J:Below w.heap.size w l:=(t.trans (f.mono t.size)).grown b (by simp;omega) (fun k U=>by cases U;omega);have lx:=u.lt x rfl;simp at I;obtain⟨a0,a1,a2,a3,a4,a5,a6⟩:=y0
 obtain⟨b0,b1,b2,b3,b4,b5,b6⟩:=y1;obtain⟨c0,c1,c2,c3,c4,c5,c6⟩:=y2;clear x0 x1 x2 f1 f2 f E b M Z t;obtain⟨V,m⟩:∃V,V=l.setCell (Ze (w.heap.size+1+1) 1) (Za x a.length j):=⟨_,rfl⟩;have s:Below w.heap.size w V:=by rw[m];exact J.setCell (p:=⟨w.heap.size+1+1,1,none⟩) (by simp<;>omega) _
 have zB:V.heap.size=l.heap.size:=by rw[m];simp
 have O:V.ownsRow (w.heap.size+3) 9 1 (Za x a.length j) a.length (a.map Value.string):=by rw[m];exact ownsRow_setCell_below u (by simp) _
 have r1:AY V (w.heap.size+1) 0 Zc Zc 0 0 0:=by rw[m];exact⟨by simp[go_sem,b0],by simp[go_sem,b1],by simp[go_sem,b2],by simp[go_sem,b3],by simp[go_sem,b4],by simp[go_sem,b5],by simpa using b6⟩
 have r2:AY V (w.heap.size+1+1) q (Za x a.length j) (Za h d.length A) ag i r:=by rw[m];exact⟨by simp[go_sem,c0],by simp[go_sem,c1],by simp[go_sem,c2],by simp[go_sem,c3],by simp[go_sem,c4],by simp[go_sem,c5],by simpa using c6⟩
 have k1:∀o,V.frozen? ⟨w.heap.size+1,o,none⟩=false:=fun o=>by rw[m];simp[go_sem,e1]
 have k2:∀o,V.frozen? ⟨w.heap.size+1+1,o,none⟩=false:=fun o=>by rw[m];simp[go_sem,e2]
 have Y:=Yx m;clear m;go_wp2_with (first
  |(at_builtin;refine wpList_append_own _ rfl _ _ 22 rfl l.heap.size 9 i0 Zd 1 16 underlying22 hi R S T rfl (by decide) _ 0 (([]:Zl).map Value.string) rfl ?e0 ⟨h,0,none⟩ d.length A (d.map Value.string) rfl ?e1 ?e2 ?e3 ?e4 ?e5 ?e6 ?_)
  |go_in)
 all_goals try rw[←Y.o]
 case e0=>
  have:=World.ownsRow_lit (base:=l.heap.size) (e:=9) (size:=1) V #[] 0 (by omega) (by unfold maxLen;omega) rfl;rw[zB]at this;exact this
 case e1=>simp
 case e2=>exact(hm.below (s.alloc s.size _)).ck
 case e3=>exact NF d
 case e4=>unfold maxLen;omega
 case e5=>omega
 case e6=>simp;omega
 intro v2 D z L N;have F:∃y B,v2=Za y d.length B:=by have:=Kk z N;simpa using this
 obtain⟨y,B,rfl⟩:=F;try simp only[Nat.zero_add,List.map_nil,List.nil_append]at z
 have c:(V.alloc (.cells #[] 9)).grownBy D (some l.heap.size):=by simpa [Value.ownBlock]using L
 have f:Below V.heap.size V (V.alloc (.cells #[] 9)):=Zy;have s1:=(r1.below f).grown c (by omega);have s2:=(r2.below f).grown c (by omega);have t2:∀o,D.frozen? ⟨w.heap.size+1+1,o,none⟩=false:=fun o=>(c.frozen_far ⟨w.heap.size+1+1,o,none⟩ (by simp<;>omega) (by simp<;>omega)).trans ((f.frozen (p:=⟨w.heap.size+1+1,o,none⟩) (by simp<;>omega)).trans (k2 o))
 have t1:∀o,D.frozen? ⟨w.heap.size+1,o,none⟩=false:=fun o=>(c.frozen_far ⟨w.heap.size+1,o,none⟩ (by simp<;>omega) (by simp<;>omega)).trans ((f.frozen (p:=⟨w.heap.size+1,o,none⟩) (by simp<;>omega)).trans (k1 o));have K:Below w.heap.size w D:=(s.trans (f.mono s.size)).grown c (by simp;omega) (fun k U=>by cases U;omega);have ly:=z.lt y rfl
 have P:D.ownsRow (w.heap.size+3) 9 1 (Za x a.length j) a.length (a.map Value.string):=(O.alloc _).kept c (.inr (by simp[Value.ownBlock];omega));have Q:=z.mono (show w.heap.size+3<=l.heap.size by omega);have zA:x≠y:=by omega
 have G:=Yx (Zn P (Zn Q (Zn zA K)));obtain⟨m0,m1,m2,m3,m4,m5,m6⟩:=s1;obtain⟨n0,n1,n2,n3,n4,n5,n6⟩:=s2;clear a0 a1 a2 a3 a4 a5 a6 b0 b1 b2 b3 b4 b5 b6 c0 c1 c2 c3 c4 c5 c6 P Q z L c f r1 r2 k1 k2 O u s J K Y e1 e2 N;go_wp2
 refine bodyPost_ret (v:=.agg (Yr q (some ⟨x,0,none⟩) a.length j (some ⟨y,0,none⟩) d.length B ag i r)) (by simp[results,results76,go_sem,m0,m1,m2,m3,m4,m5]) rfl ⟨x,j,y,B,rfl,?_,?_,G.o.2.2.1,?_⟩
 ·refine World.ownsRow.mono ?_ (show w.heap.size<=w.heap.size+3 by omega)
  iterate 7 (refine ownsRow_setCell_below ?_ (by simp) _)
  exact G.o.1
 ·refine World.ownsRow.mono ?_ (show w.heap.size<=w.heap.size+3 by omega)
  iterate 7 (refine ownsRow_setCell_below ?_ (by simp) _)
  exact G.o.2.1
 ·iterate 7 (refine Below.setCell ?_ (by simp<;>omega) _)
  exact G.o.2.2.2
theorem Le(m ag j n:Int)(g h A B:Nat)(b a:Zl)(w:Zh)(N:Ad w w.heap.size (some ⟨g,0,none⟩) b)(M:Ad w w.heap.size (some ⟨h,0,none⟩) a)(L:FT b a):
 Calls prog 114 #[.agg (Yr m (some ⟨g,0,none⟩) b.length A (some ⟨h,0,none⟩) a.length B ag j n)] w fun e G=>∃x k y l,e=.returned (.agg (Yr m (some ⟨x,0,none⟩) b.length k (some ⟨y,0,none⟩) a.length l ag j n))/\
  G.ownsRow w.heap.size 9 1 (Za x b.length k) b.length (b.map Value.string)/\G.ownsRow w.heap.size 9 1 (Za y a.length l) a.length (a.map Value.string)/\x≠y/\Zz w G:=by
 obtain⟨W,i⟩:∃W,W=(w.alloc (.cells (Yr m (some ⟨g,0,none⟩) b.length A (some ⟨h,0,none⟩) a.length B ag j n) 44)).alloc (.cells Yq 44):=⟨_,rfl⟩;have f:Below w.heap.size w W:=by rw[i];exact(Zy).alloc (by simp) _
 have Q:AY W (w.heap.size+1) 0 Zc Zc 0 0 0:=by rw[i];exact⟨by simp[go_sem],by simp[go_sem],by simp[go_sem],by simp[go_sem],by simp[go_sem],by simp[go_sem],by simp⟩
 have P:AY W w.heap.size m (Za g b.length A) (Za h a.length B) ag j n:=by rw[i];exact⟨by simp[go_sem],by simp[go_sem],by simp[go_sem],by simp[go_sem],by simp[go_sem],by simp[go_sem],by simp<;>omega⟩
 have Z:∀o,W.frozen? ⟨w.heap.size,o,none⟩=false:=fun o=>by rw[i];simp[go_sem]
 have f1:∀o,W.frozen? ⟨w.heap.size+1,o,none⟩=false:=fun o=>by rw[i];simp[go_sem]
 have zA:W.heap.size=w.heap.size+2:=by rw[i];simp
 have K:=Yx i;have r:=Yx P;have C:=Yx Q;have J:=Yx N;have I:=Yx M;clear i Q N M;obtain⟨S,T,U,V,X,Y,a6⟩:=P;go_enter func114,ntmps114;go_upto_region 1 with fail;rw[←K.o];go_region_with (first
  |(go_at_call 136;refine(Mn g A b W.drew (Ad.af (w:=w) J.o f.drew) L.q).mono ?_;rintro e O ⟨x,k,rfl,t,D⟩;have c:Below W.heap.size W O:=(Below.refl W.heap.size W).drew.trans D;obtain⟨b0,b1,b2,b3,b4,b5,b6⟩:=AY.below r.o c;have lx:=t.lt x rfl)
  |(go_at_call 136;refine(Mn h B a O (Ad.af (w:=w) I.o (f.trans (c.mono f.size))) L.m).mono ?_;rintro e q ⟨y,l,rfl,u,s⟩;have ly:=u.lt y rfl;have d:Below W.heap.size W q:=c.trans (s.mono c.size);obtain⟨c0,c1,c2,c3,c4,c5,c6⟩:=AY.below r.o d;obtain⟨d0,d1,d2,d3,d4,d5,d6⟩:=AY.below C.o d;have e0:∀o,q.frozen? ⟨w.heap.size,o,none⟩=false:=(fun o=>(d.frozen (p:=⟨w.heap.size,o,none⟩) (by simp;omega)).trans (Z o));have e1:∀o,q.frozen? ⟨w.heap.size+1,o,none⟩=false:=(fun o=>(d.frozen (p:=⟨w.heap.size+1,o,none⟩) (by simp;omega)).trans (f1 o))))
 all_goals
  have E:q.ownsRow (w.heap.size+2) 9 1 (Za x b.length k) b.length (b.map Value.string):=(CQ t s).mono (by simp;omega);have F:q.ownsRow (w.heap.size+2) 9 1 (Za y a.length l) a.length (a.map Value.string):=u.mono (by have:=c.size;omega);have R:x≠y:=by omega
  have z:=Yx (Zn E (Zn F (Zn R (f.trans (d.mono f.size)))));clear E F t u D s c d r C J I S T U V X Y f K;go_wp2;refine bodyPost_ret (v:=.agg (Yr m (some ⟨x,0,none⟩) b.length k (some ⟨y,0,none⟩) a.length l ag j n)) (by simp[results,results114,go_sem,d0,d1,d2,d3,d4,d5]) rfl ⟨x,k,y,l,rfl,?_,?_,z.o.2.2.1,?_⟩
  ·refine World.ownsRow.mono ?_ (show w.heap.size<=w.heap.size+2 by omega)
   iterate 8 (refine ownsRow_setCell_below ?_ (by simp<;>omega) _)
   exact z.o.1
  ·refine World.ownsRow.mono ?_ (show w.heap.size<=w.heap.size+2 by omega)
   iterate 8 (refine ownsRow_setCell_below ?_ (by simp<;>omega) _)
   exact z.o.2.1
  ·iterate 8 (refine Below.setCell ?_ (by simp) _)
   exact z.o.2.2.2
section
attribute [local go_sem↓] Go.wp_at_zero Go.wp_at_succ
end
section
attribute [local go_sem↓] Go.wp_at_zero Go.wp_at_succ
theorem SX{a:List Kd}{k:Nat}{x:Kd}(b:a[k]?=some x):a.take (k+1)=a.take k++[x]:=by obtain⟨h,rfl⟩:=Zw b;exact Zu h
end
section
attribute [local go_sem↓] Go.wp_at_zero Go.wp_at_succ
end
section
def Ge(wd:Int)(k:Kd):Int:=1+k.refs.length *wd+k.text.size
def CH(wd:Int)(ks:List Kd):Int:=(ks.map (Ge wd)).sum
theorem IF{wd:Int}{a:List Kd}{k:Nat}{x:Kd}(b:a[k]?=some x):CH wd (a.take (k+1))=CH wd (a.take k)+Ge wd x:=by unfold CH;rw[SX b,List.map_append,List.sum_append];simp
theorem Kp{wd:Int}{x:Kd}(h:AK x.text x.refs wd=true):1<=Ge wd x/\Ge wd x<=2241/\0<=(x.refs.length:Int) *wd/\(x.refs.length:Int) *wd<=240:=by have h:=BB h;have b:=h.lo;have a:=h.hi;have c:=h.refs;have d:=h.text;have e:0<=(x.refs.length:Int) *wd:=Int.mul_nonneg (by omega) (by omega);have f:(x.refs.length:Int) *wd<=30 *8:=Int.mul_le_mul (by omega) a (by omega) (by omega);unfold Ge;omega
theorem Kq{wd:Int}{a:List Kd}(h:∀(i:Nat) k,a[i]?=some k->AK k.text k.refs wd=true):∀k,k<=a.length->0<=CH wd (a.take k)/\CH wd (a.take k)<=2241 *k
 |0,_=>by simp[CH]
 |k+1,hk=>by have c:=Kq h k (by omega);have b:a[k]?=some (a[k]'(by omega)):=Zv (by omega);have:=Kp (h k _ b);rw[IF b];omega
theorem Pt{x:Kd}{wd:Int}(h:AK x.text x.refs wd=true):((AH x.text x.refs wd).size:Int)=Ge wd x:=by
 have a:=BB h;have b:=a.aq;have c:=a.lo;unfold AH;rw[if_pos h];have:(ByteArray.mk (BD x.text x.refs).toArray).size=1+(aq x.refs+x.text.size):=by show(BD x.text x.refs).toArray.size=_;simp only[List.size_toArray,BD,List.length_cons,List.length_append,Dg,Array.length_toList];show _+x.text.size+1=_;omega
 rw[this,b];unfold Ge;have e:((x.refs.length *wd.toNat:Nat):Int)=(x.refs.length:Int) *wd:=by rw[Int.natCast_mul,Int.toNat_of_nonneg (by omega)]
 omega
theorem QN(wd g given ae:Int)(a:Zk)(j:Nat)(P L:Value)(c:List Kd)(w:Zh)(d:BF w w.heap.size a c)(T:c.length<=600)(f:∀(i:Nat) k,c[i]?=some k->AK k.text k.refs wd=true):
 Calls prog 46 #[.agg #[Zg wd,Zg g,Zg given,Zg ae,.slice a c.length j,P,L]] w fun e E=>e=.returned (Zg (CH wd c))/\Zz w E:=by
 have q:Below w.heap.size w (w.alloc (.cells #[Zg wd,Zg g,Zg given,Zg ae,.slice a c.length j,P,L] 43)):=Zy;go_enter func46,ntmps46;go_wp2
 go_loopw [3,4] (fun n i wr=>∃(k m:Nat),k<=c.length/\i=Zg k/\n=Zg (CH wd (c.take k))/\wr=(w.alloc (.cells #[Zg wd,Zg g,Zg given,Zg ae,.slice a c.length j,P,L] 43)).drewN m) (fun _ i _=>c.length -(intOf i).toNat)
 case atStart=>exact⟨0,0,Nat.zero_le _,rfl,by simp[CH],rfl⟩
 case round=>
  obtain⟨k,m,B,rfl,rfl,rfl⟩:=hrel;by_cases hlt:k<c.length
  ·obtain⟨b,I,A,S,p⟩:=d.at hlt;subst A;have h:Hid (c[k]?=some c[k]):=Zv hlt;obtain⟨J,K,c2,U,V,c3,_⟩:=p k _ h.o;have r:=Kp (f k _ h.o);have s:=Kq f k B;have t:=Yx (IF (wd:=wd) h.o);have F:(0:Int)<=(k:Int):=by omega
   have G:(k:Int)<(c.length:Int):=by omega
   obtain⟨l,o,u,v⟩:=r;obtain⟨C,D⟩:=s;have z:CH wd (c.take k)<=1344600:=by omega
   generalize c[k]=x at *
   unfold Ge at l o;generalize hRK:CH wd (c.take k)=R at *
   have M:IntKind.i64.wrap (R+1)=R+1:=Iy (by omega) (by omega);have N:IntKind.i64.wrap ((x.refs.length:Int) *wd)=(x.refs.length:Int) *wd:=Iy (by omega) (by omega);have O:IntKind.i64.wrap (R+1+(x.refs.length:Int) *wd)=R+1+(x.refs.length:Int) *wd:=Iy (by omega) (by omega)
   have Q:IntKind.i64.wrap (R+1+(x.refs.length:Int) *wd+x.text.size)=R+1+(x.refs.length:Int) *wd+x.text.size:=Iy (by omega) (by omega);clear p d f l o u v C D z hRK;go_wp2;go_quiet (fail);go_wp2;refine⟨⟨k+1,_,by omega,by go_num,?_,rfl⟩,by simp[intOf];omega⟩;rw[t.o];unfold Ge;congr 1;omega
  ·go_wp2;go_ret;exact⟨Kz (by rw[Zt (by omega)]),Cf q _⟩
open Classical in
theorem SY(wd f given ae:Int)(a p l:Zk)(m r o:Nat)(c:List Kd)(s:List Pd)(q:List Ld)(w:Zh)(j:BF w w.heap.size a c)(hn:c.length<=600)(O:∀(i:Nat) k,c[i]?=some k->AK k.text k.refs wd=true)(N:∀k∈c,k.text.size<=maxLen)(M:∀k∈c,k.refs.length<=1048576):
 Calls prog 107 #[.agg (Ys wd f given ae a c.length m p s.length r l q.length o)] w fun e w'=>e=.returned (Zg (CH wd c))/\Zz w w':=by
 have L:Below w.heap.size w (w.alloc (.cells (Ys wd f given ae a c.length m p s.length r l q.length o) 43)):=Zy;have P:=Bb.new w wd f given ae (.slice a c.length m) (.slice p s.length r) (.slice l q.length o) 43;have t:=Yx O;have zB:=Yx j;have J:=Yx (Zn N M);go_enter func107,ntmps107;have K:=Yx P;obtain⟨A,B,C,D,E,F,G,x7⟩:=P;clear j O N M;go_wp2
 go_loopw [3,9] (fun n i wr=>∃k:Nat,k<=c.length/\i=Zg k/\n=Zg (CH wd (c.take k))/\Zz w wr/\Hid (Bb wr w.heap.size wd f given ae (.slice a c.length m) (.slice p s.length r) (.slice l q.length o))) (fun _ i _=>c.length -(intOf i).toNat)
 case atStart=>exact⟨0,Nat.zero_le _,rfl,by simp[CH],L,K⟩
 case round=>
  clear A B C D E F G x7 K L;obtain⟨k,zF,rfl,rfl,d,Q⟩:=hrel;obtain⟨A,B,C,D,E,F,G,x7⟩:=Q.o;by_cases hlt:k<c.length
  ·obtain⟨b,zG,ha,hb,T⟩:=(BF.below zB.o d).at hlt;subst ha;have z:Hid (c[k]?=some c[k]):=Zv hlt;obtain⟨c0,c1,c2,Y,Z,c3,U⟩:=T k _ z.o;have g:=List.getElem_mem hlt;have V:=J.o.1 _ g;have X:=J.o.2 _ g;have HL:=Yx (Pt (t.o k _ z.o));obtain⟨b1,b2,_,_⟩:=Kp (t.o k _ z.o);obtain⟨r1,r2⟩:=Kq t.o k zF;have zC:=Yx (IF (wd:=wd) z.o);have zI:b<wr.heap.size:=by omega
   have hR:CH wd (c.take k)<=1344600:=by omega
   generalize c[k]=x at *
   generalize Ge wd x=RX at *
   generalize CH wd (c.take k)=R at *
   have u:Below wr.heap.size wr (wr.alloc (Obj.cells #[Value.string x.sum,Value.int IntKind.i64 x.born,Value.string x.text,Value.slice Y x.refs.length Z] 137)):=Zy;have S:=Yx (IZ x.text Y Z x.refs wd _ ((U.mono d.size).af u) X V);have h:=Yx (Zn d (Zn u Q.o));have I:=d.size;clear T U g r2 u d Q V X;go_wp2_with fail;refine Calls.mono S.o ?_;rintro e w2 ⟨rfl,v⟩
   have zH:((AH x.text x.refs wd).size:Int)=RX:=HL.o;have zA:Hid (Zz w w2):=(h.o.1.trans (h.o.2.1.mono I)).trans (v.mono (by simp;omega));have zE:Hid (Bb w2 w.heap.size wd f given ae (.slice (some ⟨b,zG,none⟩) c.length m) (.slice p s.length r) (.slice l q.length o)):=Bb.below (Bb.below h.o.2.2 h.o.2.1) v;clear v h S A B C D E F G c0 c1 c2 c3;go_wp2
   refine⟨⟨k+1,by omega,by go_num,?_,zA.o,zE⟩,by simp[intOf];omega⟩;rw[zC.o]
  ·clear A B C D E F G;go_wp2;go_ret;exact⟨Kz (by rw[Zt (by omega)]),d⟩
end
theorem QO(a b:Zk)(c d:Nat)(f g:Zl)(w:Zh)(z:Ad w w.heap.size a f)(v:Ad w w.heap.size b g)(Z:f.length<=100000)(R:g.length<=1048576):
 Calls prog 160 #[.slice a f.length c,.slice b g.length d] w fun e P=>Ap (f=g) w P e:=by
 have s:Hid (∀X,Zz w X->Ad X w.heap.size a f/\Ad X w.heap.size b g):=fun X u=>⟨z.below u,v.below u⟩;clear z v;by_cases hlen:f.length=g.length
 ·have F:((f.length:Int) !=(g.length:Int))=false:=by simp;omega
  have m:=Yx hlen;clear hlen;go_enter func160,ntmps160;go_wp2
  go_loopw [13] (fun i wr=>∃k:Nat,k<=f.length/\i=Zg k/\Hid (f.take k=g.take k/\Zz w wr)) (fun i _=>f.length -(intOf i).toNat)
  case atStart=>exact⟨0,Nat.zero_le _,rfl,⟨by simp,Below.refl _ _⟩⟩
  case round=>
   obtain⟨k,Y,rfl,l⟩:=hrel;by_cases hlt:k<f.length
   ·have j:k<g.length:=by have:=m.o;omega
    obtain⟨rb,ro,N,J,p⟩:=(s.o wr l.o.2).1.at hlt;obtain⟨qb,qo,O,I,o⟩:=(s.o wr l.o.2).2.at j;subst N O;have U:=p k _ (Zv hlt);have V:=o k _ (Zv j);have A:=l.o.2.size;have T:=Zr J A;have S:=Zr I A;have D:=Yx (Zu hlt);have E:=Yx (Zu j);have HN:Hid (∀x y,f[k]?=some x->g[k]?=some y->x≠y->f≠g):=fun x y M t G e=>by subst e;rw[M]at t;exact G (Option.some.inj t)
    have B:=Yx (Zv hlt);have C:=Yx (Zv j);have Q:(k:Int)<g.length:=by omega
    clear p o;generalize f[k]=x at *
    generalize g[k]=y at *
    have r:=Yx l.o.2;by_cases hxy:x=y
    ·subst hxy;have q:(x.toList !=x.toList)=false:=by simp
     go_wp2
     go_region
     all_goals go_wp2
     all_goals exact⟨⟨k+1,by omega,by go_num,⟨by rw[D.o,E.o,l.o.1],r.o.drew⟩⟩,by simp[intOf];omega⟩
    ·have q:=Ca hxy;have L:(x.toList !=y.toList)=true:=by simp[bne,q]
     go_wp2
     go_region
     all_goals go_wp2
     all_goals go_ret
     all_goals exact Ap.no (fun h=>HN.o x y B.o C.o hxy h) r.o.drew
   ·obtain rfl:k=f.length:=by omega
    have n:=l.o.1;rw[Zt (Zx),Zt (by have:=m.o;omega)]at n;go_wp2;go_ret;exact Ap.yes n l.o.2
 ·have F:((f.length:Int)==(g.length:Int))=false:=by simp;omega
  have K:((f.length:Int) !=(g.length:Int))=true:=by simp;omega
  go_enter func160,ntmps160;go_wp2;go_ret;exact Ap.no (fun h=>hlen (by rw[h])) (Below.refl _ _)
theorem Kd.eq_iff(x y:Kd):x=y↔x.sum=y.sum/\x.born=y.born/\x.text=y.text/\x.refs=y.refs:=by cases x;cases y;simp
theorem Oq(x y:Kd)(a b:Zk)(c d:Nat)(w:Zh)(l:Ad w w.heap.size a x.refs)(k:Ad w w.heap.size b y.refs)(E:x.refs.length<=100000)(q:y.refs.length<=1048576):
 Calls prog 131 #[.agg #[.string x.sum,Zg x.born,.string x.text,.slice a x.refs.length c],.agg #[.string y.sum,Zg y.born,.string y.text,.slice b y.refs.length d]] w fun e N=>Ap (x=y) w N e:=by
 obtain⟨W,j⟩:∃W,W=(w.alloc (.cells #[.string x.sum,Zg x.born,.string x.text,.slice a x.refs.length c] 137)).alloc (.cells #[.string y.sum,Zg y.born,.string y.text,.slice b y.refs.length d] 137):=⟨_,rfl⟩;have g:=(Bj j).1;have m:=(Bj j).2.2.1;have n:Aa W (w.heap.size+1) [.string y.sum,Zg y.born,.string y.text,.slice b y.refs.length d]:=by have f:=Aa.new (w.alloc (.cells #[.string x.sum,Zg x.born,.string x.text,.slice a x.refs.length c] 137)) [.string y.sum,Zg y.born,.string y.text,.slice b y.refs.length d] 137;rw[World.size_alloc]at f;rw[j];exact f
 have v:=Yx (QO a b c d x.refs y.refs W (l.af g) (k.af g) E q);obtain⟨F,G,I,J⟩:=Aa.c4 m 0 1 2 3;obtain⟨v0,K,L,M⟩:=Aa.c4 n 0 1 2 3;have i:=Yx j;have u:=Yx (Kd.eq_iff x y);clear j l k m n;by_cases f:x.sum=y.sum
 ·have A:(x.sum.toList==y.sum.toList)=true:=by rw[f];simp
  have r:=Yx f;clear f;by_cases h2:x.born=y.born
  ·have B:(x.born==y.born)=true:=by simp[h2]
   have s:=Yx h2;clear h2;by_cases h3:x.text=y.text
   ·have C:(x.text.toList==y.text.toList)=true:=by rw[h3];simp
    have t:=Yx h3;clear h3;go_enter func131,ntmps131;go_upto_region 1 with fail;rw[←i.o];clear i;go_wp2_with fail;refine Calls.mono v.o ?_;rintro e O ⟨z,rfl,p,o⟩;have D:=g.trans (o.mono g.size);clear F G I J v0 K L M;go_wp2;go_ret;exact⟨z,rfl,by rw[p,u.o];exact⟨fun h=>⟨r.o,s.o,t.o,h⟩,fun h=>h.2.2.2⟩,D⟩
   ·have C:=Ca h3;go_enter func131,ntmps131;go_upto_region 1 with fail;rw[←i.o];go_wp2_with fail
    all_goals (try go_wp2)
    all_goals (try go_ret)
    all_goals exact Ap.no (fun h=>h3 (by rw[h])) g
  ·have B:(x.born==y.born)=false:=by simp[h2]
   go_enter func131,ntmps131;go_upto_region 1 with fail;rw[←i.o];go_wp2_with fail
   all_goals (try go_wp2)
   all_goals (try go_ret)
   all_goals exact Ap.no (fun h=>h2 (by rw[h])) g
 ·have A:=Ca f;go_enter func131,ntmps131;go_upto_region 1 with fail;rw[←i.o];go_wp2_with fail
  all_goals (try go_wp2)
  all_goals (try go_ret)
  all_goals exact Ap.no (fun h=>f (by rw[h])) g
theorem Nd(a b:Zk)(c d:Nat)(f g:List Kd)(w:Zh)(O:BF w w.heap.size a f)(N:BF w w.heap.size b g)(hl:f.length<=100000)(zH:g.length<=1048576)(p:∀k∈f,k.refs.length<=100000)(z:∀k∈g,k.refs.length<=1048576):
 Calls prog 130 #[.slice a f.length c,.slice b g.length d,.func (.func 131) #[] #[]] w fun e w'=>Ap (f=g) w w' e:=by
 have K:Hid (∀X,Zz w X->BF X w.heap.size a f/\BF X w.heap.size b g):=fun X M=>⟨O.below M,N.below M⟩;clear O N;by_cases hlen:f.length=g.length
 ·have Y:((f.length:Int) !=(g.length:Int))=false:=by simp;omega
  have m:=Yx hlen;clear hlen;go_enter func130,ntmps130;go_wp2
  go_loopw [17] (fun i wr=>∃k:Nat,k<=f.length/\i=Zg k/\Hid (f.take k=g.take k/\Zz w wr)) (fun i _=>f.length -(intOf i).toNat)
  case atStart=>exact⟨0,Nat.zero_le _,rfl,⟨by simp,Below.refl _ _⟩⟩
  case round=>
   obtain⟨k,hk,rfl,l⟩:=hrel;by_cases hlt:k<f.length
   ·have j:k<g.length:=by have:=m.o;omega
    obtain⟨rb,ro,ha,zB,F⟩:=(K.o wr l.o.2).1.at hlt;obtain⟨qb,qo,hb,zA,D⟩:=(K.o wr l.o.2).2.at j;subst ha hb;obtain⟨c0,c1,c2,G,I,c3,E⟩:=F k _ (Zv hlt);obtain⟨d0,d1,d2,q,r,d3,o⟩:=D k _ (Zv j);have t:=l.o.2.size;have zJ:=Zr zB t;have zI:=Zr zA t;have T:=Yx (Zu hlt);have V:=Yx (Zu j);have HN:Hid (∀x y,f[k]?=some x->g[k]?=some y->x≠y->f≠g):=fun x y p z Z e=>by subst e;rw[p]at z;exact Z (Option.some.inj z)
    have R:=Yx (Zv hlt);have S:=Yx (Zv j);have zC:=p _ (List.getElem_mem hlt);have zE:=z _ (List.getElem_mem j);have zG:(k:Int)<g.length:=by omega
    clear F D;generalize f[k]=x at *
    generalize g[k]=y at *
    obtain⟨U,s⟩:∃U,U=(wr.alloc (.cells #[.string x.sum,Zg x.born,.string x.text,.slice G x.refs.length I] 137)).alloc (.cells #[.string y.sum,Zg y.born,.string y.text,.slice q y.refs.length r] 137):=⟨_,rfl⟩;have v:=(Bj s).1;have J:=Yx (l.o.2.trans (v.mono t));have P:=(Bj s).2.2.1;have Q:Aa U (wr.heap.size+1) [.string y.sum,Zg y.born,.string y.text,.slice q y.refs.length r]:=by have p:=Aa.new (wr.alloc (.cells #[.string x.sum,Zg x.born,.string x.text,.slice G x.refs.length I] 137)) [.string y.sum,Zg y.born,.string y.text,.slice q y.refs.length r] 137;rw[World.size_alloc]at p;rw[s];exact p
    have L:=Yx (Oq x y G q I r U (Ad.af (Ad.mono E t) v) (Ad.af (Ad.mono o t) v) zC zE);obtain⟨m0,m1,m2,m3⟩:=Aa.c4 P 0 1 2 3;obtain⟨n0,n1,n2,n3⟩:=Aa.c4 Q 0 1 2 3;have HU:=Yx s;clear s P Q E o v;go_upto_region 7 with fail;rw[←HU.o];clear HU c0 c1 c2 c3 d0 d1 d2 d3;go_wp2_with fail;refine Calls.mono L.o ?_;rintro e w1 ⟨bb,rfl,C,B⟩;have A:=Yx (J.o.trans (B.mono J.o.size))
    clear m0 m1 m2 m3 n0 n1 n2 n3 L B;cases bb with
    |true=>have u:=C.1 rfl;go_wp2;exact⟨⟨k+1,by omega,by go_num,⟨by rw[T.o,V.o,l.o.1,u],A.o⟩⟩,by simp[intOf];omega⟩
    |false=>
     have u:x≠y:=fun e=>by have:=C.2 e;cases this
     go_wp2;go_ret;exact Ap.no (fun h=>HN.o x y R.o S.o u h) A.o
   ·obtain rfl:k=f.length:=by omega
    have n:=l.o.1;rw[Zt (Zx),Zt (by have:=m.o;omega)]at n;go_wp2;go_ret;exact Ap.yes n l.o.2
 ·have Y:((f.length:Int)==(g.length:Int))=false:=by simp;omega
  have zF:((f.length:Int) !=(g.length:Int))=true:=by simp;omega
  go_enter func130,ntmps130;go_wp2;go_ret;exact Ap.no (fun h=>hlen (by rw[h])) (Below.refl _ _)
theorem QQ(a b:Zk)(c d:Nat)(f g:List Pd)(w:Zh)(B:Ba w w.heap.size a f)(A:Ba w w.heap.size b g)(hl:f.length<=100000)(R:g.length<=1048576):
 Calls prog 132 #[.slice a f.length c,.slice b g.length d] w fun e P=>Ap (f=g) w P e:=by
 have u:Hid (∀X,Zz w X->Ba X w.heap.size a f/\Ba X w.heap.size b g):=fun X z=>⟨B.below z,A.below z⟩;clear B A;by_cases hlen:f.length=g.length
 ·have F:((f.length:Int) !=(g.length:Int))=false:=by simp;omega
  have m:=Yx hlen;clear hlen;go_enter func132,ntmps132;go_wp2
  go_loopw [13] (fun i wr=>∃k:Nat,k<=f.length/\i=Zg k/\Hid (f.take k=g.take k/\Zz w wr)) (fun i _=>f.length -(intOf i).toNat)
  case atStart=>exact⟨0,Nat.zero_le _,rfl,⟨by simp,Below.refl _ _⟩⟩
  case round=>
   obtain⟨k,hk,rfl,l⟩:=hrel;by_cases hlt:k<f.length
   ·have j:k<g.length:=by have:=m.o;omega
    obtain⟨rb,ro,N,K,r⟩:=(u.o wr l.o.2).1.at hlt;obtain⟨qb,qo,O,J,q⟩:=(u.o wr l.o.2).2.at j;subst N O;obtain⟨U,V⟩:=r k _ (Zv hlt);obtain⟨Y,Z⟩:=q k _ (Zv j);have C:=l.o.2.size;have T:=Zr K C;have S:=Zr J C;have D:=Yx (Zu hlt);have E:=Yx (Zu j);have HN:Hid (∀x y,f[k]?=some x->g[k]?=some y->x≠y->f≠g):=fun x y M v I e=>by subst e;rw[M]at v;exact I (Option.some.inj v)
    have o:=Yx (Zv hlt);have p:=Yx (Zv j);have Q:(k:Int)<g.length:=by omega
    clear r q;generalize f[k]=x at *
    generalize g[k]=y at *
    have s:=Yx l.o.2;by_cases hxy:x=y
    ·subst hxy;go_wp2
     go_region
     all_goals go_wp2
     all_goals exact⟨⟨k+1,by omega,by go_num,⟨by rw[D.o,E.o,l.o.1],s.o.drew⟩⟩,by simp[intOf];omega⟩
    ·by_cases hn:x.name=y.name
     ·have hs:¬x.sum.toList=y.sum.toList:=fun e=>hxy (by
       have e2:=FR e;cases x;cases y;simp_all)
      have G:x.name.toList=y.name.toList:=by rw[hn]
      have t:=Yx hxy;clear hn hxy;go_wp2
      go_region
      all_goals go_wp2
      all_goals go_ret
      all_goals exact Ap.no (fun h=>HN.o x y o.o p.o t.o h) s.o.drew
     ·have G:¬x.name.toList=y.name.toList:=fun e=>hn (FR e);have t:=Yx hxy;clear hn hxy;go_wp2
      go_region
      all_goals go_wp2
      all_goals go_ret
      all_goals exact Ap.no (fun h=>HN.o x y o.o p.o t.o h) s.o.drew
   ·obtain rfl:k=f.length:=by omega
    have n:=l.o.1;rw[Zt (Zx),Zt (by have:=m.o;omega)]at n;go_wp2;go_ret;exact Ap.yes n l.o.2
 ·have F:((f.length:Int)==(g.length:Int))=false:=by simp;omega
  have L:((f.length:Int) !=(g.length:Int))=true:=by simp;omega
  go_enter func132,ntmps132;go_wp2;go_ret;exact Ap.no (fun h=>hlen (by rw[h])) (Below.refl _ _)
theorem QR(a b:Zk)(c d:Nat)(f g:List Ld)(w:Zh)(B:Be w w.heap.size a f)(A:Be w w.heap.size b g)(hl:f.length<=100000)(R:g.length<=1048576):
 Calls prog 133 #[.slice a f.length c,.slice b g.length d] w fun e P=>Ap (f=g) w P e:=by
 have u:Hid (∀X,Zz w X->Be X w.heap.size a f/\Be X w.heap.size b g):=fun X z=>⟨B.below z,A.below z⟩;clear B A;by_cases hlen:f.length=g.length
 ·have F:((f.length:Int) !=(g.length:Int))=false:=by simp;omega
  have m:=Yx hlen;clear hlen;go_enter func133,ntmps133;go_wp2
  go_loopw [13] (fun i wr=>∃k:Nat,k<=f.length/\i=Zg k/\Hid (f.take k=g.take k/\Zz w wr)) (fun i _=>f.length -(intOf i).toNat)
  case atStart=>exact⟨0,Nat.zero_le _,rfl,⟨by simp,Below.refl _ _⟩⟩
  case round=>
   obtain⟨k,hk,rfl,l⟩:=hrel;by_cases hlt:k<f.length
   ·have j:k<g.length:=by have:=m.o;omega
    obtain⟨rb,ro,N,J,s⟩:=(u.o wr l.o.2).1.at hlt;obtain⟨qb,qo,O,I,r⟩:=(u.o wr l.o.2).2.at j;subst N O;obtain⟨U,V,c2⟩:=s k _ (Zv hlt);obtain⟨Y,Z,d2⟩:=r k _ (Zv j);have C:=l.o.2.size;have T:=Zr J C;have S:=Zr I C;have D:=Yx (Zu hlt);have E:=Yx (Zu j);have HN:Hid (∀x y,f[k]?=some x->g[k]?=some y->x≠y->f≠g):=fun x y M v G e=>by subst e;rw[M]at v;exact G (Option.some.inj v)
    have o:=Yx (Zv hlt);have p:=Yx (Zv j);have Q:(k:Int)<g.length:=by omega
    clear s r;generalize f[k]=x at *
    generalize g[k]=y at *
    have q:=Yx l.o.2;by_cases hxy:x=y
    ·subst hxy;go_wp2
     go_region
     all_goals go_wp2
     all_goals exact⟨⟨k+1,by omega,by go_num,⟨by rw[D.o,E.o,l.o.1],q.o.drew⟩⟩,by simp[intOf];omega⟩
    ·have t:=Yx hxy;by_cases hn:x.num=y.num
     ·by_cases hs:x.sum=y.sum
      ·have ht:¬x.bf=y.bf:=fun e=>hxy (by
        cases x;cases y;simp_all)
       have K:x.sum.toList=y.sum.toList:=by rw[hs]
       clear hs hxy;go_wp2
       go_region
       all_goals go_wp2
       all_goals go_ret
       all_goals exact Ap.no (fun h=>HN.o x y o.o p.o t.o h) q.o.drew
      ·have K:¬x.sum.toList=y.sum.toList:=fun e=>hs (FR e);clear hs hxy;go_wp2
       go_region
       all_goals go_wp2
       all_goals go_ret
       all_goals exact Ap.no (fun h=>HN.o x y o.o p.o t.o h) q.o.drew
     ·clear hxy;go_wp2
      go_region
      all_goals go_wp2
      all_goals go_ret
      all_goals exact Ap.no (fun h=>HN.o x y o.o p.o t.o h) q.o.drew
   ·obtain rfl:k=f.length:=by omega
    have n:=l.o.1;rw[Zt (Zx),Zt (by have:=m.o;omega)]at n;go_wp2;go_ret;exact Ap.yes n l.o.2
 ·have F:((f.length:Int)==(g.length:Int))=false:=by simp;omega
  have L:((f.length:Int) !=(g.length:Int))=true:=by simp;omega
  go_enter func133,ntmps133;go_wp2;go_ret;exact Ap.no (fun h=>hlen (by rw[h])) (Below.refl _ _)
theorem Nf(E r given ae q g c b:Int)(a p l F D C:Zk)(J I G B u t:Nat)(x m:List Kd)(s i:List Pd)(z n:List Ld)(w:Zh)(hr:BJ w w.heap.size a p l x s z)(hq:BJ w w.heap.size F D C m i n)(hl:x.length<=100000/\s.length<=100000/\z.length<=100000)(zC:m.length<=1048576/\i.length<=1048576/\n.length<=1048576)(h1:∀k∈x,k.refs.length<=100000)(h2:∀k∈m,k.refs.length<=1048576):
 Calls prog 100 #[.agg (Ys E r given ae a x.length J p s.length I l z.length G),.agg (Ys q g c b F m.length B D i.length u C n.length t)] w fun e w'=>Ap ((E=q/\r=g/\given=c/\ae=b)/\x=m/\s=i/\z=n) w w' e:=by
 obtain⟨W,L⟩:∃W,W=(w.alloc (.cells (Ys E r given ae a x.length J p s.length I l z.length G) 43)).alloc (.cells (Ys q g c b F m.length B D i.length u C n.length t) 43):=⟨_,rfl⟩;have j:=(Bj L).1;have d:=(Bj L).2.2.1;have f:Aa W (w.heap.size+1) (Yt q g c b F m.length B D i.length u C n.length t):=by have h1:=Aa.new (w.alloc (.cells (Ys E r given ae a x.length J p s.length I l z.length G) 43)) (Yt q g c b F m.length B D i.length u C n.length t) 43;rw[World.size_alloc]at h1;rw[L];exact h1
 have HX:Hid (∀X,Zz W X->Aa X w.heap.size (Yt E r given ae a x.length J p s.length I l z.length G)/\Aa X (w.heap.size+1) (Yt q g c b F m.length B D i.length u C n.length t)/\Zz w X):=fun X A=>⟨Aa.below d A,Aa.below f A,j.trans (A.mono j.size)⟩;have HK:=Yx (Nd a F J B x m W (hr.af j).k (hq.af j).k hl.1 zC.1 h1 h2)
 have HP:Hid (∀X,Zz W X->Calls prog 132 #[.slice p s.length I,.slice D i.length u] X fun e w'=>Ap (s=i) X w' e):=fun X A=>QQ p D I u s i X (hr.af (j.trans (A.mono j.size))).p (hq.af (j.trans (A.mono j.size))).p hl.2.1 zC.2.1
 have HL:Hid (∀X,Zz W X->Calls prog 133 #[.slice l z.length G,.slice C n.length t] X fun e w'=>Ap (z=n) X w' e):=fun X A=>QR l C G t z n X (hr.af (j.trans (A.mono j.size))).l (hq.af (j.trans (A.mono j.size))).l hl.2.2 zC.2.2;obtain⟨M,_⟩:=d 0 _ rfl;obtain⟨v0,_⟩:=f 0 _ rfl;obtain⟨N,_⟩:=d 1 _ rfl;obtain⟨T,_⟩:=f 1 _ rfl;obtain⟨O,_⟩:=d 2 _ rfl;obtain⟨U,_⟩:=f 2 _ rfl;obtain⟨P,_⟩:=d 3 _ rfl
 obtain⟨V,_⟩:=f 3 _ rfl;obtain⟨Q,_⟩:=d 4 _ rfl;obtain⟨Y,_⟩:=f 4 _ rfl;obtain⟨R,_⟩:=d 5 _ rfl;obtain⟨Z,_⟩:=f 5 _ rfl;obtain⟨S,_⟩:=d 6 _ rfl;obtain⟨v6,_⟩:=f 6 _ rfl;have v:=Yx L;clear L hr hq d f;by_cases e1:E=q
 ·have b1:(E==q)=true:=by simp[e1]
  have E1:=Yx e1;clear e1;by_cases e2:r=g
  ·have b2:(r==g)=true:=by simp[e2]
   have E2:=Yx e2;clear e2;by_cases e3:given=c
   ·have b3:(given==c)=true:=by simp[e3]
    have E3:=Yx e3;clear e3;by_cases e4:ae=b
    ·have b4:(ae==b)=true:=by simp[e4]
     have E4:=Yx e4;clear e4;go_enter func100,ntmps100;go_upto_region 1 with fail;rw[←v.o];clear v;go_wp2_with fail;refine Calls.mono HK.o ?_;rintro e w1 ⟨K,rfl,o,zG⟩;obtain⟨d,f,zJ⟩:=HX.o w1 zG;have zA:=Yx zG;clear M v0 N T O U P V Q Y R Z S v6;obtain⟨M,_⟩:=d 0 _ rfl;obtain⟨v0,_⟩:=f 0 _ rfl;obtain⟨N,_⟩:=d 1 _ rfl;obtain⟨T,_⟩:=f 1 _ rfl;obtain⟨O,_⟩:=d 2 _ rfl;obtain⟨U,_⟩:=f 2 _ rfl
     obtain⟨P,_⟩:=d 3 _ rfl;obtain⟨V,_⟩:=f 3 _ rfl;obtain⟨Q,_⟩:=d 4 _ rfl;obtain⟨Y,_⟩:=f 4 _ rfl;obtain⟨R,_⟩:=d 5 _ rfl;obtain⟨Z,_⟩:=f 5 _ rfl;obtain⟨S,_⟩:=d 6 _ rfl;obtain⟨v6,_⟩:=f 6 _ rfl;clear d f;cases K with
     |false=>
      have zE:x≠m:=fun e=>by have:=o.2 e;cases this
      go_wp2_with fail
      all_goals (try go_wp2)
      all_goals (try go_ret)
      all_goals exact Ap.no (fun h=>zE h.2.1) zJ
     |true=>
      have zH:=Yx (o.1 rfl);clear o;go_wp2_with fail;refine Calls.mono (HP.o w1 zA.o) ?_;rintro e w2 ⟨K,rfl,o,zM⟩;have zF:=Yx (zA.o.trans (zM.mono zA.o.size));obtain⟨d,f,zB⟩:=HX.o w2 zF.o;clear M v0 N T O U P V Q Y R Z S v6;obtain⟨M,_⟩:=d 0 _ rfl;obtain⟨v0,_⟩:=f 0 _ rfl;obtain⟨N,_⟩:=d 1 _ rfl;obtain⟨T,_⟩:=f 1 _ rfl;obtain⟨O,_⟩:=d 2 _ rfl;obtain⟨U,_⟩:=f 2 _ rfl;obtain⟨P,_⟩:=d 3 _ rfl
      obtain⟨V,_⟩:=f 3 _ rfl;obtain⟨Q,_⟩:=d 4 _ rfl;obtain⟨Y,_⟩:=f 4 _ rfl;obtain⟨R,_⟩:=d 5 _ rfl;obtain⟨Z,_⟩:=f 5 _ rfl;obtain⟨S,_⟩:=d 6 _ rfl;obtain⟨v6,_⟩:=f 6 _ rfl;clear d f;cases K with
      |false=>
       have zE:s≠i:=fun e=>by have:=o.2 e;cases this
       go_wp2_with fail
       all_goals (try go_wp2)
       all_goals (try go_ret)
       all_goals exact Ap.no (fun h=>zE h.2.2.1) zB
      |true=>have zI:=Yx (o.1 rfl);clear o;go_wp2_with fail;refine Calls.mono (HL.o w2 zF.o) ?_;rintro e w3 ⟨K,rfl,o,zN⟩;have zK:=zB.trans (zN.mono zB.size);clear M v0 N T O U P V Q Y R Z S v6;go_wp2;go_ret;exact⟨K,rfl,⟨fun h=>⟨⟨E1.o,E2.o,E3.o,E4.o⟩,zH.o,zI.o,o.1 h⟩,fun h=>o.2 h.2.2.2⟩,zK⟩
    ·have b4:(ae==b)=false:=by simp[e4]
     go_enter func100,ntmps100;go_upto_region 1 with fail;rw[←v.o];clear v;go_wp2_with fail
     all_goals (try go_wp2)
     all_goals (try go_ret)
     all_goals exact Ap.no (by first|exact id|exact fun h=>e4 h.1.2.2.2) j
   ·have b3:(given==c)=false:=by simp[e3]
    go_enter func100,ntmps100;go_upto_region 1 with fail;rw[←v.o];clear v;go_wp2_with fail
    all_goals (try go_wp2)
    all_goals (try go_ret)
    all_goals exact Ap.no (by first|exact id|exact fun h=>e3 h.1.2.2.1) j
  ·have b2:(r==g)=false:=by simp[e2]
   go_enter func100,ntmps100;go_upto_region 1 with fail;rw[←v.o];clear v;go_wp2_with fail
   all_goals (try go_wp2)
   all_goals (try go_ret)
   all_goals exact Ap.no (by first|exact id|exact fun h=>e2 h.1.2.1) j
 ·have b1:(E==q)=false:=by simp[e1]
  go_enter func100,ntmps100;go_upto_region 1 with fail;rw[←v.o];clear v;go_wp2_with fail
  all_goals (try go_wp2)
  all_goals (try go_ret)
  all_goals exact Ap.no (by first|exact id|exact fun h=>e1 h.1.1) j
theorem Lf(t u:Zi)(a b:Zk)(c d:Nat)(f g:Zl)(w:Zh)(r:Ad w w.heap.size a f)(q:Ad w w.heap.size b g)(hl:f.length<=100000)(zB:g.length<=1048576):
 Calls prog 123 #[.agg #[.string t,.slice a f.length c],.agg #[.string u,.slice b g.length d]] w fun e w'=>Ap (t=u/\f=g) w w' e:=by
 obtain⟨W,s⟩:∃W,W=(w.alloc (.cells #[.string t,.slice a f.length c] 51)).alloc (.cells #[.string u,.slice b g.length d] 51):=⟨_,rfl⟩;have B:=(Bj s).1;have m:=(Bj s).2.2.1;have n:Aa W (w.heap.size+1) [.string u,.slice b g.length d]:=by have C:=Aa.new (w.alloc (.cells #[.string t,.slice a f.length c] 51)) [.string u,.slice b g.length d] 51;rw[World.size_alloc]at C;rw[s];exact C
 have HX:Hid (∀X,Zz W X->Aa X w.heap.size [.string t,.slice a f.length c]/\Aa X (w.heap.size+1) [.string u,.slice b g.length d]/\Ad X w.heap.size a f/\Ad X w.heap.size b g/\Zz w X):=fun X I=>by have v:=B.trans (I.mono B.size);exact⟨Aa.below m I,Aa.below n I,r.below v,q.below v,v⟩
 obtain⟨y0,K⟩:=Aa.c2 m 0 1;obtain⟨z0,L⟩:=Aa.c2 n 0 1;have A:=Yx s;clear s r q m n;by_cases ht:t=u
 ·subst ht;have F:(t.toList !=t.toList)=false:=by simp
  by_cases hlen:f.length=g.length
  ·have R:((f.length:Int) !=(g.length:Int))=false:=by simp;omega
   have o:=Yx hlen;clear hlen;go_enter func123,ntmps123;go_upto_region 1 with fail;rw[←A.o];clear A;go_wp2
   go_loopw [5] (fun i wr=>∃k:Nat,k<=f.length/\i=Zg k/\Hid (f.take k=g.take k/\Zz W wr)) (fun i _=>f.length -(intOf i).toNat)
   case atStart=>exact⟨0,Nat.zero_le _,rfl,⟨by simp,Below.refl _ _⟩⟩
   case round=>
    clear y0 K z0 L;obtain⟨k,hk,rfl,z⟩:=hrel;obtain⟨m,n,r,q,l⟩:=HX.o wr z.o.2;obtain⟨K,_⟩:=m 1 _ rfl;obtain⟨L,_⟩:=n 1 _ rfl;by_cases hlt:k<f.length
    ·have j:k<g.length:=by have:=o.o;omega
     obtain⟨rb,ro,ha,U,E⟩:=r.at hlt;obtain⟨qb,qo,v,T,D⟩:=q.at j;subst ha v;have c0:=E k _ (Zv hlt);have d0:=D k _ (Zv j);have zE:=Zr U l.size;have zC:=Zr T l.size;have P:=Yx (Zu hlt);have Q:=Yx (Zu j);have HN:Hid (∀x y,f[k]?=some x->g[k]?=some y->x≠y->f≠g):=fun x y C J S e=>by subst e;rw[C]at J;exact S (Option.some.inj J)
     have N:=Yx (Zv hlt);have O:=Yx (Zv j);have zA:(k:Int)<g.length:=by omega
     clear E D;generalize f[k]=x at *
     generalize g[k]=y at *
     have HB:=Yx z.o.2;have M:=Yx l;clear m n r q l;by_cases hxy:x=y
     ·subst hxy;have G:(x.toList !=x.toList)=false:=by simp
      go_wp2
      go_region
      all_goals go_wp2
      all_goals exact⟨⟨k+1,by omega,by go_num,⟨by rw[P.o,Q.o,z.o.1],HB.o.drew⟩⟩,by simp[intOf];omega⟩
     ·have G:=Ca hxy;have Z:(x.toList !=y.toList)=true:=by simp[bne,G]
      go_wp2
      go_region
      all_goals go_wp2
      all_goals go_ret
      all_goals exact Ap.no (fun h=>HN.o x y N.o O.o hxy h.2) M.o.drew
    ·obtain rfl:k=f.length:=by omega
     have p:=z.o.1;rw[Zt (Zx),Zt (by have:=o.o;omega)]at p;clear m n r q;go_wp2;go_ret;exact Ap.yes ⟨by trivial,p⟩ l
  ·have R:((f.length:Int)==(g.length:Int))=false:=by simp;omega
   have V:((f.length:Int) !=(g.length:Int))=true:=by simp;omega
   go_enter func123,ntmps123;go_upto_region 1 with fail;rw[←A.o];go_wp2;go_ret;exact Ap.no (fun h=>hlen (by rw[h.2])) B
 ·have F:=Ca ht;have Y:(t.toList !=u.toList)=true:=by simp[bne,F]
  go_enter func123,ntmps123;go_upto_region 1 with fail;rw[←A.o];go_wp2;go_ret;exact Ap.no (fun h=>ht h.1) B
section
attribute [local go_sem↓] Go.wp_at_zero Go.wp_at_succ
theorem Lg(V O given ae I q c b:Int)(a p l a' p' l':Zk)(ac pc lc zC zH zG:Nat)(u j:List Kd)(A o:List Pd)(z m:List Ld)(w:Zh)(F:BJ w w.heap.size a p l u A z)(E:BJ w w.heap.size a' p' l' j o m)(hl:u.length<=100000/\A.length<=100000/\z.length<=100000)(yI:j.length<=1048576/\o.length<=1048576/\m.length<=1048576)(P:∀k∈u,k.refs.length<=100000)(Q:∀k∈j,k.refs.length<=1048576):
 Calls prog 73 #[.agg (Ys V O given ae a u.length ac p A.length pc l z.length lc),.agg (Ys I q c b a' j.length zC p' o.length zH l' m.length zG)] w fun e w'=>Ap ((V=I/\O=q/\given=c/\ae=b)/\u=j/\A=o/\z=m) w w' e:=by
 obtain⟨W,hW⟩:∃W,W=(w.alloc (.cells (Ys V O given ae a u.length ac p A.length pc l z.length lc) 43)).alloc (.cells (Ys I q c b a' j.length zC p' o.length zH l' m.length zG) 43):=⟨_,rfl⟩;have R:=(Bj hW).1;have r:=(Bj hW).2.2.1;have s:Aa W (w.heap.size+1) (Yt I q c b a' j.length zC p' o.length zH l' m.length zG):=by have P:=Aa.new (w.alloc (.cells (Ys V O given ae a u.length ac p A.length pc l z.length lc) 43)) (Yt I q c b a' j.length zC p' o.length zH l' m.length zG) 43;rw[World.size_alloc]at P;rw[hW];exact P
 have HX:Hid (∀X,Zz W X->Aa X w.heap.size (Yt V O given ae a u.length ac p A.length pc l z.length lc)/\Aa X (w.heap.size+1) (Yt I q c b a' j.length zC p' o.length zH l' m.length zG)/\BJ X w.heap.size a p l u A z/\BJ X w.heap.size a' p' l' j o m/\Zz w X):=fun X hX=>by have v:=R.trans (hX.mono R.size);exact⟨Aa.below r hX,Aa.below s hX,F.ak v,E.ak v,v⟩
 have zW:=(Bj hW).2.1;obtain⟨zV,_⟩:=r 0 _ rfl;obtain⟨yC,_⟩:=s 0 _ rfl;obtain⟨zX,_⟩:=r 1 _ rfl;obtain⟨yD,_⟩:=s 1 _ rfl;obtain⟨zY,_⟩:=r 2 _ rfl;obtain⟨yE,_⟩:=s 2 _ rfl;obtain⟨zZ,_⟩:=r 3 _ rfl;obtain⟨yF,_⟩:=s 3 _ rfl;obtain⟨J,_⟩:=r 4 _ rfl;obtain⟨K,_⟩:=s 4 _ rfl;obtain⟨yA,_⟩:=r 5 _ rfl;obtain⟨yG,_⟩:=s 5 _ rfl;obtain⟨yB,_⟩:=r 6 _ rfl;obtain⟨yH,_⟩:=s 6 _ rfl;have B:=Yx hW;clear hW F E r s
 by_cases e0:V=I
 ·have b0:(V !=I)=false:=by simp[e0]
  have E0:=Yx e0;clear e0;by_cases e1:O=q
  ·have b1:(O !=q)=false:=by simp[e1]
   have E1:=Yx e1;clear e1;by_cases e2:given=c
   ·have b2:(given !=c)=false:=by simp[e2]
    have E2:=Yx e2;clear e2;by_cases e3:ae=b
    ·have b3:(ae !=b)=false:=by simp[e3]
     have E3:=Yx e3;clear e3;by_cases e4:u.length=j.length
     ·have b4:((u.length:Int) !=(j.length:Int))=false:=by simp[e4]
      have E4:=Yx e4;clear e4;by_cases e5:A.length=o.length
      ·have b5:((A.length:Int) !=(o.length:Int))=false:=by simp[e5]
       have E5:=Yx e5;clear e5;by_cases e6:z.length=m.length
       ·have b6:((z.length:Int) !=(m.length:Int))=false:=by simp[e6]
        have E6:=Yx e6;clear e6;go_enter func73,ntmps73;go_upto_region 1 with fail;rw[←B.o];clear B;go_wp2;clear b0 b1 b2 b3 b4 b5 b6
        go_loopw [5] (fun i wr=>∃k:Nat,k<=u.length/\i=Zg k/\Hid (u.take k=j.take k/\Zz W wr)) (fun i _=>u.length -(intOf i).toNat)
        case atStart=>exact⟨0,Nat.zero_le _,rfl,⟨by simp,Below.refl _ _⟩⟩
        case round=>
         clear zV yC zX yD zY yE zZ yF J K yA yG yB yH;obtain⟨k,hk,rfl,t⟩:=hrel;obtain⟨r,s,F,E,f⟩:=HX.o wr t.o.2;have zR:=t.o.2.size;obtain⟨J,_⟩:=r 4 _ rfl;obtain⟨K,_⟩:=s 4 _ rfl;by_cases hlt:k<u.length
         ·have d:k<j.length:=by have:=E4.o;omega
          obtain⟨rb,ro,ha,zF,N⟩:=F.k.at hlt;obtain⟨qb,qo,v,zE,M⟩:=E.k.at d;subst ha v;obtain⟨c0,c1,c2,ra,rc,c3,zP⟩:=N k _ (Zv hlt);obtain⟨d0,d1,d2,sa,sc,d3,zO⟩:=M k _ (Zv d);have T:=Zr zF f.size;have S:=Zr zE f.size;have zA:=Yx (Zu hlt);have zB:=Yx (Zu d);have HN:Hid (∀x y,u[k]?=some x->j[k]?=some y->x≠y->u≠j):=fun x y P Q U e=>by subst e;rw[P]at Q;exact U (Option.some.inj Q)
          have C:=Yx (Zv hlt);have D:=Yx (Zv d);have zN:(k:Int)<j.length:=by omega
          have m1:=P _ (List.getElem_mem hlt);have m2:=Q _ (List.getElem_mem d);clear N M;generalize u[k]=x at *
          generalize j[k]=y at *
          have HB:=Yx t.o.2;have HC:Hid (∀n:AG wr,Calls prog 123 #[.agg #[.string x.text,.slice ra x.refs.length rc],.agg #[.string y.text,.slice sa y.refs.length sc]] n.w fun e w'=>e=.returned (.bool (decide (x.text=y.text/\x.refs=y.refs)))/\Below n.w.heap.size n.w w'):=fun n=>by
           have zM:=f.trans (n.h.mono f.size);refine(Lf x.text y.text ra sa rc sc x.refs y.refs n.w ((zP.below (n.h.mono f.size)).mono zM.size) ((zO.below (n.h.mono f.size)).mono zM.size) m1 m2).mono ?_;rintro e w' ⟨bb,rfl,zK,zJ⟩;refine⟨?_,zJ⟩;by_cases hP:x.text=y.text/\x.refs=y.refs
           ·rw[zK.2 hP,decide_eq_true hP]
           ·cases bb with
            |true=>exact absurd (zK.1 rfl) hP
            |false=>rw[decide_eq_false hP]
          have q1:=AG.cell J (by omega);have q2:=AG.cell K (by omega);have r0:=AG.cell c0 T;have s0:=AG.cell d0 S;have r1:=AG.cell c1 T;have s1:=AG.cell d1 S;have r2:=AG.cell c2 T;have s2:=AG.cell d2 S;have r3:=AG.cell c3 T;have s3:=AG.cell d3 S;have U:=AG.ne wr;have HE:Hid (∀n:AG wr,Zz W n.w):=fun n=>HB.o.trans (n.h.mono HB.o.size);clear r s F E zP zO f;by_cases hs:x.sum=y.sum
          ·have zT:(x.sum.toList !=y.sum.toList)=false:=by rw[hs];simp
           have zU:(x.sum.toList==y.sum.toList)=true:=by rw[hs];simp
           by_cases v:x.born=y.born
           ·have zJ:(x.born !=y.born)=false:=by simp[v]
            have zS:(x.born==y.born)=true:=by simp[v]
            by_cases hP:x.text=y.text/\x.refs=y.refs
            ·rw[decide_eq_true hP]at HC;have L:Hid (x=y):=by obtain⟨e1,e2⟩:=hP;show x=y;cases x;cases y;simp_all
             clear hP hs v;go_wp2;refine AN (by kernel_rfl) (by kernel_rfl) ?_
             repeat (go_big_quiet_step (exact AG.calls (HC.o _)))
             refine wpQuiet_nil ?_;intro n;clear q1 q2 r0 r1 r2 r3 s0 s1 s2 s3 J K c0 c1 c2 c3 d0 d1 d2 d3;go_wp2;exact⟨⟨k+1,by omega,by go_num,⟨by rw[zA.o,zB.o,t.o.1,L.o],HE.o n⟩⟩,by simp[intOf];omega⟩
            ·rw[decide_eq_false hP]at HC;have Z:=Yx hP;clear hP hs v;go_wp2;refine AN (by kernel_rfl) (by kernel_rfl) ?_
             repeat (go_big_quiet_step (exact AG.calls (HC.o _)))
             refine wpQuiet_nil ?_;intro n;have Y:=Yx ((HX.o _ (HE.o n)).2.2.2.2);clear q1 q2 r0 r1 r2 r3 s0 s1 s2 s3 J K c0 c1 c2 c3 d0 d1 d2 d3;go_wp2;go_ret;exact Ap.no (fun h=>HN.o x y C.o D.o (fun e=>Z.o (by rw[e];exact⟨rfl,rfl⟩)) h.2.1) Y.o
           ·have zJ:(x.born !=y.born)=true:=by simp[v]
            have zS:(x.born==y.born)=false:=by simp[v]
            have Z:=Yx v;clear v hs;go_wp2;refine AN (by kernel_rfl) (by kernel_rfl) ?_
            repeat (go_big_quiet_step (exact AG.calls (HC.o _)))
            refine wpQuiet_nil ?_;intro n;have Y:=Yx ((HX.o _ (HE.o n)).2.2.2.2);clear q1 q2 r0 r1 r2 r3 s0 s1 s2 s3 J K c0 c1 c2 c3 d0 d1 d2 d3;go_wp2;go_ret;exact Ap.no (fun h=>HN.o x y C.o D.o (fun e=>Z.o (by rw[e])) h.2.1) Y.o
          ·have zT:(x.sum.toList !=y.sum.toList)=true:=by simp[bne,Ca hs]
           have zU:=Ca hs;have Z:=Yx hs;clear hs;go_wp2;refine AN (by kernel_rfl) (by kernel_rfl) ?_
           repeat (go_big_quiet_step (exact AG.calls (HC.o _)))
           refine wpQuiet_nil ?_;intro n;have Y:=Yx ((HX.o _ (HE.o n)).2.2.2.2);clear q1 q2 r0 r1 r2 r3 s0 s1 s2 s3 J K c0 c1 c2 c3 d0 d1 d2 d3;go_wp2;go_ret;exact Ap.no (fun h=>HN.o x y C.o D.o (fun e=>Z.o (by rw[e])) h.2.1) Y.o
         ·obtain rfl:k=u.length:=by omega
          have g:=t.o.1;rw[Zt (Zx),Zt (by have:=E4.o;omega)]at g;have HK:=Yx g;have zI:=Yx t.o.2;clear g r s F E f;go_wp2
          go_loopw [6] (fun i wr=>∃k:Nat,k<=A.length/\i=Zg k/\Hid (A.take k=o.take k/\Zz W wr)) (fun i _=>A.length -(intOf i).toNat)
          case atStart=>exact⟨0,Nat.zero_le _,rfl,⟨by simp,zI.o⟩⟩
          case round=>
           obtain⟨k,hk,rfl,t⟩:=hrel;obtain⟨r,s,F,E,f⟩:=HX.o wr t.o.2;have zR:=t.o.2.size;obtain⟨J,_⟩:=r 5 _ rfl;obtain⟨K,_⟩:=s 5 _ rfl;by_cases hlt:k<A.length
           ·have d:k<o.length:=by have:=E5.o;omega
            obtain⟨rb,ro,ha,zF,N⟩:=F.p.at hlt;obtain⟨qb,qo,v,zE,M⟩:=E.p.at d;subst ha v;obtain⟨c0,c1⟩:=N k _ (Zv hlt);obtain⟨d0,d1⟩:=M k _ (Zv d);have T:=Zr zF f.size;have S:=Zr zE f.size;have zA:=Yx (Zu hlt);have zB:=Yx (Zu d);have HN:Hid (∀x y,A[k]?=some x->o[k]?=some y->x≠y->A≠o):=fun x y P Q U e=>by subst e;rw[P]at Q;exact U (Option.some.inj Q)
            have C:=Yx (Zv hlt);have D:=Yx (Zv d);have zN:(k:Int)<o.length:=by omega
            clear N M;generalize A[k]=x at *
            generalize o[k]=y at *
            have HB:=Yx t.o.2;have G:=Yx f;clear r s F E f;by_cases hxy:x=y
            ·subst hxy;go_wp2
             go_region
             all_goals go_wp2
             all_goals exact⟨⟨k+1,by omega,by go_num,⟨by rw[zA.o,zB.o,t.o.1],HB.o.drew⟩⟩,by simp[intOf];omega⟩
            ·have L:=Yx hxy;by_cases n0:x.name=y.name
             ·have k0:x.name.toList=y.name.toList:=by rw[n0]
              have n1:¬x.sum=y.sum:=fun e=>hxy (by
               cases x;cases y;simp_all)
              have k1:¬x.sum.toList=y.sum.toList:=fun e=>n1 (FR e);clear hxy n0 n1;go_wp2
              go_region
              all_goals go_wp2
              all_goals go_ret
              all_goals exact Ap.no (fun h=>HN.o x y C.o D.o L.o h.2.2.1) G.o.drew
             ·have k0:¬x.name.toList=y.name.toList:=fun e=>n0 (FR e);clear n0 hxy;go_wp2
              go_region
              all_goals go_wp2
              all_goals go_ret
              all_goals exact Ap.no (fun h=>HN.o x y C.o D.o L.o h.2.2.1) G.o.drew
           ·obtain rfl:k=A.length:=by omega
            have g:=t.o.1;rw[Zt (Zx),Zt (by have:=E5.o;omega)]at g;have HP:=Yx g;have zI:=Yx t.o.2;have G:=Yx f;clear g r s F E f;go_wp2
            go_loopw [7] (fun i wr=>∃k:Nat,k<=z.length/\i=Zg k/\Hid (z.take k=m.take k/\Zz W wr)) (fun i _=>z.length -(intOf i).toNat)
            case atStart=>exact⟨0,Nat.zero_le _,rfl,⟨by simp,zI.o⟩⟩
            case round=>
             obtain⟨k,hk,rfl,t⟩:=hrel;obtain⟨r,s,F,E,f⟩:=HX.o wr t.o.2;have zR:=t.o.2.size;obtain⟨J,_⟩:=r 6 _ rfl;obtain⟨K,_⟩:=s 6 _ rfl;by_cases hlt:k<z.length
             ·have d:k<m.length:=by have:=E6.o;omega
              obtain⟨rb,ro,ha,zF,N⟩:=F.l.at hlt;obtain⟨qb,qo,v,zE,M⟩:=E.l.at d;subst ha v;obtain⟨c0,c1,c2⟩:=N k _ (Zv hlt);obtain⟨d0,d1,d2⟩:=M k _ (Zv d);have T:=Zr zF f.size;have S:=Zr zE f.size;have zA:=Yx (Zu hlt);have zB:=Yx (Zu d);have HN:Hid (∀x y,z[k]?=some x->m[k]?=some y->x≠y->z≠m):=fun x y P Q U e=>by subst e;rw[P]at Q;exact U (Option.some.inj Q)
              have C:=Yx (Zv hlt);have D:=Yx (Zv d);have zN:(k:Int)<m.length:=by omega
              clear N M;generalize z[k]=x at *
              generalize m[k]=y at *
              have HB:=Yx t.o.2;have G:=Yx f;clear r s F E f;by_cases hxy:x=y
              ·subst hxy;go_wp2
               go_region
               all_goals go_wp2
               all_goals exact⟨⟨k+1,by omega,by go_num,⟨by rw[zA.o,zB.o,t.o.1],HB.o.drew⟩⟩,by simp[intOf];omega⟩
              ·have L:=Yx hxy;by_cases n0:x.num=y.num
               ·have k0:=n0;by_cases n1:x.sum=y.sum
                ·have k1:x.sum.toList=y.sum.toList:=by rw[n1]
                 have n2:¬x.bf=y.bf:=fun e=>hxy (by
                  cases x;cases y;simp_all)
                 clear hxy n1;go_wp2
                 go_region
                 all_goals go_wp2
                 all_goals go_ret
                 all_goals exact Ap.no (fun h=>HN.o x y C.o D.o L.o h.2.2.2) G.o.drew
                ·have k1:¬x.sum.toList=y.sum.toList:=fun e=>n1 (FR e);clear n1 hxy;go_wp2
                 go_region
                 all_goals go_wp2
                 all_goals go_ret
                 all_goals exact Ap.no (fun h=>HN.o x y C.o D.o L.o h.2.2.2) G.o.drew
               ·clear hxy;go_wp2
                go_region
                all_goals go_wp2
                all_goals go_ret
                all_goals exact Ap.no (fun h=>HN.o x y C.o D.o L.o h.2.2.2) G.o.drew
             ·obtain rfl:k=z.length:=by omega
              have g:=t.o.1;rw[Zt (Zx),Zt (by have:=E6.o;omega)]at g;have HL:=Yx g;have zI:=Yx t.o.2;have G:=Yx f;clear g r s F E f;go_wp2;go_ret;exact Ap.yes ⟨⟨E0.o,E1.o,E2.o,E3.o⟩,HK.o,HP.o,HL.o⟩ G.o
       ·have b6:=bne_iff_ne.2 (by omega);go_enter func73,ntmps73;go_upto_region 1 with fail;rw[←B.o];clear B;go_wp2;go_ret;exact Ap.no (fun h=>e6 (by rw[h.2.2.2])) R
      ·have b5:=bne_iff_ne.2 (by omega);go_enter func73,ntmps73;go_upto_region 1 with fail;rw[←B.o];clear B;go_wp2;go_ret;exact Ap.no (fun h=>e5 (by rw[h.2.2.1])) R
     ·have b4:=bne_iff_ne.2 (by omega);go_enter func73,ntmps73;go_upto_region 1 with fail;rw[←B.o];clear B;go_wp2;go_ret;exact Ap.no (fun h=>e4 (by rw[h.2.1])) R
    ·have b3:(ae !=b)=true:=by simp[e3]
     go_enter func73,ntmps73;go_upto_region 1 with fail;rw[←B.o];clear B;go_wp2;go_ret;exact Ap.no (fun h=>e3 h.1.2.2.2) R
   ·have b2:(given !=c)=true:=by simp[e2]
    go_enter func73,ntmps73;go_upto_region 1 with fail;rw[←B.o];clear B;go_wp2;go_ret;exact Ap.no (fun h=>e2 h.1.2.2.1) R
  ·have b1:(O !=q)=true:=by simp[e1]
   go_enter func73,ntmps73;go_upto_region 1 with fail;rw[←B.o];clear B;go_wp2;go_ret;exact Ap.no (fun h=>e1 h.1.2.1) R
 ·have b0:(V !=I)=true:=by simp[e0]
  go_enter func73,ntmps73;go_upto_region 1 with fail;rw[←B.o];clear B;go_wp2;go_ret;exact Ap.no (fun h=>e0 h.1.1) R
end
theorem LM{A:Type}{c:A->Zj}{n:Nat}(h:∀x,(c x).length=n)(m:0<n){a:List A}{b:Zj}(o:b.length=a.length *n)(l:∀i x j,a[i]?=some x->j<n->b[i *n+j]?=(c x)[j]?):b=Ab c a:=by
 apply List.ext_getElem?;intro k;have p:=BC h a;by_cases hlt:k<a.length *n
 ·have g:k/n<a.length:=Nat.div_lt_of_lt_mul (by rw[Nat.mul_comm];exact hlt);have d:k%n<n:=Nat.mod_lt _ m;have e:k=k/n *n+k%n:=by rw[Nat.mul_comm];exact(Nat.div_add_mod k n).symm
  have f:=Zv g;rw[e,l _ _ _ f d,Bz h f d]
 ·rw[List.getElem?_eq_none (by omega),List.getElem?_eq_none (by omega)]
theorem Ue.gn{w:Zh}{lo g:Nat}{a:List Pd}(h:Ue w lo g a):w.ownsRow lo 142 2 (Za g a.length a.length) a.length (Ab pC a):=by
 obtain⟨m,b,k⟩:=h;have e:m=Ab pC a:=LM BU (by omega) b.1 (fun i x j l f=>by
  obtain⟨c,d⟩:=k i x l
  match j,f with
  |0,_=>exact c
  |1,_=>exact d)
 exact e▸b
theorem Uf.gn{w:Zh}{lo g:Nat}{a:List Ld}(h:Uf w lo g a):w.ownsRow lo 144 3 (Za g a.length a.length) a.length (Ab lC a):=by
 obtain⟨n,b,l⟩:=h;have e:n=Ab lC a:=LM Cz (by omega) b.1 (fun i x j m k=>by
  obtain⟨c,d,f⟩:=l i x m
  match j,k with
  |0,_=>exact c
  |1,_=>exact d
  |2,_=>exact f)
 exact e▸b
structure Hx (w:Zh) (lo g:Nat) (rs:Zj) (ks:List Kd):Prop where
 len:rs.length=ks.length
 ai:w.ownsRow lo 137 4 (.slice (some ⟨g,0,none⟩) ks.length ks.length) ks.length (Ab kC (ks.zip rs))
 refs:∀(i:Nat) (k:Kd) (r:Value),ks[i]?=some k->rs[i]?=some r->w.ownsRow (g+1) 9 1 r k.refs.length (k.refs.map Value.string)
 sm:∀r∈rs,∃q n c,r=.slice (some ⟨q,0,none⟩) n c
 inc:(rs.filterMap Value.ownBlock).Pairwise (·<·)
theorem Ud.to{w:Zh}{lo g:Nat}{m:List Kd}(h:Ud w lo g m):∃l,Hx w lo g l m:=by
 obtain⟨t,D,B,P⟩:=h;have d:∀i,i<m.length->∃q n,t[i *4+3]?=some (Za q n n):=fun i E=>by obtain⟨_,_,_,q,o,_⟩:=B i _ (Zv E);exact⟨q,_,o⟩
 obtain⟨l,p⟩:∃l,l=(List.range m.length).map (fun i=>t[i *4+3]?.getD undef):=⟨_,rfl⟩;have C:l.length=m.length:=by rw[p];simp
 have u:∀i,i<m.length->l[i]?=some (t[i *4+3]?.getD undef):=fun i h=>by rw[p,List.getElem?_map,List.getElem?_range h];rfl
 refine⟨l,C,?_,?_,?_,?_⟩
 ·have e:t=Ab kC (m.zip l):=LM Ej (by omega) (by rw[D.1,List.length_zip,C,Nat.min_self]) (fun i x j S Q=>by
   obtain⟨A,I⟩:=List.getElem?_zip_eq_some.1 S;obtain⟨J,K,L,q,o,_⟩:=B i _ A;have f:=u i (Zw A).1;rw[I,o]at f
   match j,Q with
   |0,_=>exact J
   |1,_=>exact K
   |2,_=>exact L
   |3,_=>exact o.trans f.symm)
  exact e▸D
 ·intro i k r a G;obtain⟨_,_,_,q,o,M⟩:=B i k a;have f:=u i (Zw a).1;rw[o,G]at f;cases f;exact M
 ·intro r f;rw[p]at f;obtain⟨i,a,rfl⟩:=List.mem_map.1 f;obtain⟨q,n,s⟩:=d i (List.mem_range.1 a);exact⟨q,_,_,by rw[s];rfl⟩
 ·rw[p,List.filterMap_map,List.pairwise_filterMap];refine List.Pairwise.imp_of_mem (R:=(·<·)) ?_ List.pairwise_lt_range;intro i j a v F b N c O;obtain⟨q,n,s⟩:=d i (List.mem_range.1 a);obtain⟨T,U,z⟩:=d j (List.mem_range.1 v);have:=P i j q T _ _ _ _ F (List.mem_range.1 v) s z;simp[s,Value.ownBlock]at N;simp[z,Value.ownBlock]at O;omega
section
open Go.ChangeShapes Go.WideShapes Go.ChangeAt Go.RowKit Go.Deep
theorem Ea:prog.cellsOf 3=1:=by kernel_rfl
theorem Ft:prog.cellsOf 22=1:=by kernel_rfl
theorem Wv:prog.cellsOf 35=2:=by kernel_rfl
theorem ZB:prog.cellsOf 112=4:=by kernel_rfl
theorem ZZ:prog.cellsOf 115=2:=by kernel_rfl
theorem XV:prog.cellsOf 118=3:=by kernel_rfl
theorem XW:prog.cellsOf 29=7:=by kernel_rfl
theorem cKs:prog.cellsOf 25=1:=by kernel_rfl
theorem cPs:prog.cellsOf 26=1:=by kernel_rfl
theorem cLs:prog.cellsOf 27=1:=by kernel_rfl
section
variable {H:Type} {enc:TypeId×Value->H} {W:Zh} {base:Nat} {spare:Nat->Bool} {held:Bool} {fuel:Nat} {y:DataW H×List MemPlace}
theorem CB{v:Value}(h:DataW.trod enc prog W base spare held fuel 3 [v]=some y):∃n,v=Zg n/\(Lit.int .i64 n).wf=true:=by obtain⟨n,a,_,b⟩:=DataW.trod_int underlying3 h;simp at a;exact⟨n,a,b⟩
theorem Pu{v0 d:Value}(h:DataW.trod enc prog W base spare held fuel 35 [v0,d]=some y):
 ∃t a c b,v0=.string t/\t.size<=maxLen/\d=.slice a (List.length b) c/\Ad W W.heap.size a b/\b.length<=maxLen/\∀s∈b,ByteArray.size s<=maxLen:=by
 obtain⟨o,p,n,_,_,i,j⟩:=trod_struct2 underlying35 h;have e:DataW.trod enc prog W base spare held n 9 [v0]=some o:=by simpa [FP]using i
 have f:DataW.trod enc prog W base spare held n 22 [d]=some p:=by simpa [Ft]using j
 obtain⟨t,l,g⟩:=FQ e;obtain⟨a,c,b,m,k⟩:=Fq f;exact⟨t,a,c,b,l,g,m,k⟩
theorem XX{α:Type}{l:List α}(h:l.length=2):∃a b,l=[a,b]:=by match l,h with|[a,b],_=>exact⟨a,b,rfl⟩
theorem UI{α:Type}{l:List α}(h:l.length=3):∃a b c,l=[a,b,c]:=by match l,h with|[a,b,c],_=>exact⟨a,b,c,rfl⟩
theorem Aaa{α:Type}{l:List α}(h:l.length=4):∃a b c d,l=[a,b,c,d]:=by match l,h with|[a,b,c,d],_=>exact⟨a,b,c,d,rfl⟩
theorem Aab{α:Type}{l:List α}(h:l.length=7):∃a b c d e f g,l=[a,b,c,d,e,f,g]:=by match l,h with|[a,b,c,d,e,f,g],_=>exact⟨a,b,c,d,e,f,g,rfl⟩
theorem SZ{a:Addr}{n:Nat}{f:Zj}(h:W.cells? base (a.add (0 *n)) n=some f)(i:0<n):∃b c,a=⟨b,c,none⟩/\b<W.heap.size:=by
 obtain⟨_,hlen,g⟩:=World.cells?_some h;obtain⟨b,c,spot⟩:=a;have e:=g 0 (by omega);rw[Zv (by omega)]at e;have d:spot=none:=by simpa [Addr.add]using World.cell?_spot e
 subst d;rw[Go.WideShapes.add_plain,Go.WideShapes.add_plain]at e;exact⟨b,c,rfl,World.block_lt_of_cell? W ⟨b,c+0 *n+0,none⟩ e⟩
theorem QS{b a i n:Nat}{c:Zj}(h:W.cells? base ((⟨b,a,none⟩:Addr).add (i *n)) n=some c):c.length=n/\∀j v,c[j]?=some v->W.cell? (Ze b (a+i *n+j))=some v:=by obtain⟨_,hlen,d⟩:=World.cells?_some h;rw[Go.WideShapes.add_plain]at d;refine⟨hlen,fun j v e=> ?_⟩;have:=d j (by have:=(Zw e).1;omega);rw[Go.WideShapes.add_plain]at this;rw[this,e]
theorem Kr{α:Type}[Inhabited α]{t e:TypeId}{n:Nat}{v:Value}(N:prog.underlying t=some (.slice e))(K:prog.cellsOf e=n)(L:0<n)(Q:Nat->Nat->α->Prop)
 (M:∀(fuel:Nat) (y:DataW H×List MemPlace) (r:Zj) (b o:Nat),DataW.trod enc prog W base spare held fuel e r=some y->r.length=n->(∀j v,r[j]?=some v->W.cell? (Ze b (o+j))=some v)->∃x,Q b o x)
 (h:DataW.trod enc prog W base spare held fuel t [v]=some y):
 ∃a f,∃l:List α,v=.slice a l.length f/\l.length<=maxLen/\(l=[]∨∃b c,a=some ⟨b,c,none⟩/\b<W.heap.size/\∀(i:Nat) x,l[i]?=some x->Q b (c+i *n) x):=by
 rcases open_slice N h with⟨d,_⟩|⟨a,len,f,m,S,D,R,d,_,T,U,A,_,s⟩
 ·simp at d;subst d;exact⟨none,0,[],rfl,by simp[maxLen],.inl rfl⟩
 ·simp at d;subst d;have P:len<=m:=by rw[A];split<;>omega
  rw[K]at s;by_cases h0:len=0
  ·subst h0;exact⟨some a,f,[],rfl,by simp[maxLen],.inl rfl⟩
  ·obtain⟨O,z,_⟩:=s 0 (by omega);obtain⟨b,c,rfl,J⟩:=SZ z L;obtain⟨F,I⟩:=choose_lt (α:=α) (n:=len) (p:=fun i x=>Q b (c+i *n) x) (fun i g=>by
    obtain⟨w,B,C⟩:=s i (by omega);obtain⟨E,G⟩:=QS B;exact M _ _ w b (c+i *n) C E G)
   refine⟨some ⟨b,c,none⟩,f,(List.range len).map F,by simp,by simp;omega,.inr ⟨b,c,rfl,J,fun i x g=> ?_⟩⟩;rw[List.getElem?_map]at g;cases hri:(List.range len)[i]? with
   |none=>rw[hri]at g;cases g
   |some k=>rw[hri]at g;cases g;obtain⟨q,u⟩:=Zw hri;simp at q u;subst u;exact I i q
def QK(W:Zh)(b o:Nat)(k:Kd):Prop:=KH W W.heap.size b o k/\k.sum.size<=maxLen/\k.text.size<=maxLen/\k.refs.length<=maxLen/\(∀s∈k.refs,s.size<=maxLen)/\(Lit.int .i64 k.born).wf=true
theorem Ta{d:Zj}{b o:Nat}(h:DataW.trod enc prog W base spare held fuel 112 d=some y)(u:d.length=4)(c:∀j v,d[j]?=some v->W.cell? (Ze b (o+j))=some v):∃k,QK W b o k:=by
 obtain⟨n,p,c2,c3,rfl⟩:=Aaa u;obtain⟨I,e,_,_,_,hlen,a⟩:=DataW.trod_struct underlying112 h;obtain⟨E,F,G,rfl⟩:=UI (l:=I) hlen;have q:DataW.trod enc prog W base spare held e 9 [n]=some E:=by simpa [FP]using a 0 _ rfl
 have r:DataW.trod enc prog W base spare held e 3 [p]=some F:=by simpa [Ea]using a 1 _ rfl
 have s:DataW.trod enc prog W base spare held e 35 [c2,c3]=some G:=by simpa [Wv]using a 2 _ rfl
 obtain⟨i,rfl,x⟩:=FQ q;obtain⟨m,rfl,A⟩:=CB r;obtain⟨t,B,C,D,rfl,z,rfl,w,f,g⟩:=Pu s;exact⟨⟨i,m,t,D⟩,⟨c 0 _ rfl,c 1 _ rfl,c 2 _ rfl,B,C,c 3 _ rfl,w⟩,x,z,f,g,A⟩
def QP(W:Zh)(b o:Nat)(p:Pd):Prop:=(W.cell? (Ze b o)=some (.string p.name)/\W.cell? (Ze b (o+1))=some (.string p.sum))/\p.name.size<=maxLen/\p.sum.size<=maxLen
theorem UJ{c:Zj}{b o:Nat}(h:DataW.trod enc prog W base spare held fuel 115 c=some y)(n:c.length=2)(d:∀j v,c[j]?=some v->W.cell? (Ze b (o+j))=some v):∃p,QP W b o p:=by
 obtain⟨g,i,rfl⟩:=XX n;obtain⟨w,e,_,_,_,hlen,a⟩:=DataW.trod_struct underlying115 h;obtain⟨t,u,rfl⟩:=XX (l:=w) hlen;have k:DataW.trod enc prog W base spare held e 9 [g]=some t:=by simpa [FP]using a 0 _ rfl
 have m:DataW.trod enc prog W base spare held e 9 [i]=some u:=by simpa [FP]using a 1 _ rfl
 obtain⟨s,rfl,q⟩:=FQ k;obtain⟨f,rfl,r⟩:=FQ m;exact⟨⟨s,f⟩,⟨d 0 _ rfl,d 1 _ rfl⟩,q,r⟩
def QL(W:Zh)(b o:Nat)(l:Ld):Prop:=(W.cell? (Ze b o)=some (Zg l.num)/\W.cell? (Ze b (o+1))=some (.string l.sum)/\W.cell? (Ze b (o+2))=some (Zg l.bf))/\l.sum.size<=maxLen
theorem QT{c:Zj}{b o:Nat}(h:DataW.trod enc prog W base spare held fuel 118 c=some y)(p:c.length=3)(d:∀j v,c[j]?=some v->W.cell? (Ze b (o+j))=some v):∃l,QL W b o l:=by
 obtain⟨g,i,c2,rfl⟩:=UI p;obtain⟨x,e,_,_,_,hlen,a⟩:=DataW.trod_struct underlying118 h;obtain⟨t,u,w,rfl⟩:=UI (l:=x) hlen;have k:DataW.trod enc prog W base spare held e 3 [g]=some t:=by simpa [Ea]using a 0 _ rfl
 have m:DataW.trod enc prog W base spare held e 9 [i]=some u:=by simpa [FP]using a 1 _ rfl
 have n:DataW.trod enc prog W base spare held e 3 [c2]=some w:=by simpa [Ea]using a 2 _ rfl
 obtain⟨r,rfl,_⟩:=CB k;obtain⟨f,rfl,q⟩:=FQ m;obtain⟨s,rfl,_⟩:=CB n;exact⟨⟨r,f,s⟩,⟨d 0 _ rfl,d 1 _ rfl,d 2 _ rfl⟩,q⟩
theorem ED{α:Type}{a:List α}{b c n:Nat}{Q:Nat->Nat->α->Prop}{R:α->Prop}(h:∀(i:Nat) x,a[i]?=some x->Q b (c+i *n) x)(e:∀b o x,Q b o x->R x):∀x∈a,R x:=fun x f=>by obtain⟨i,d⟩:=List.getElem?_of_mem f;exact e _ _ _ (h i x d)
theorem QU{v:Value}(h:DataW.trod enc prog W base spare held fuel 25 [v]=some y):∃a c e,v=.slice a (List.length e) c/\BF W W.heap.size a e/\NJ e/\∀k∈e,(Lit.int .i64 (Kd.born k)).wf=true:=by
 haveI:Inhabited Kd:=⟨⟨ByteArray.empty,0,ByteArray.empty,[]⟩⟩
 obtain⟨a,c,e,rfl,f,p⟩:=Kr underlying25 ZB (by omega) (QK W) (fun _ _ _ _ _ j l m=>Ta j l m) h;rcases p with rfl|⟨b,g,rfl,n,d⟩
 ·exact⟨a,c,[],rfl,.inl rfl,⟨f,by simp,by simp,by simp,by simp⟩,by simp⟩
 ·refine⟨_,c,e,rfl,.inr ⟨b,g,rfl,n,fun i k o=>(d i k o).1⟩,⟨f,ED d (fun _ _ _ q=>q.2.1),ED d (fun _ _ _ q=>q.2.2.1),ED d (fun _ _ _ q=>q.2.2.2.1),ED d (fun _ _ _ q=>q.2.2.2.2.1)⟩,ED d (fun _ _ _ q=>q.2.2.2.2.2)⟩
theorem Tb{v:Value}(h:DataW.trod enc prog W base spare held fuel 26 [v]=some y):∃a c d,v=.slice a (List.length d) c/\Ba W W.heap.size a d/\NK d:=by
 haveI:Inhabited Pd:=⟨⟨ByteArray.empty,ByteArray.empty⟩⟩
 obtain⟨a,c,d,rfl,f,p⟩:=Kr underlying26 ZZ (by omega) (QP W) (fun _ _ _ _ _ j l m=>UJ j l m) h;rcases p with rfl|⟨b,g,rfl,n,e⟩
 ·exact⟨a,c,[],rfl,.inl rfl,⟨f,by simp,by simp⟩⟩
 ·exact⟨_,c,d,rfl,.inr ⟨b,g,rfl,n,fun i k o=>(e i k o).1⟩,⟨f,ED e (fun _ _ _ q=>q.2.1),ED e (fun _ _ _ q=>q.2.2)⟩⟩
theorem Pv{v:Value}(h:DataW.trod enc prog W base spare held fuel 27 [v]=some y):∃a c d,v=.slice a (List.length d) c/\Be W W.heap.size a d/\NL d:=by
 haveI:Inhabited Ld:=⟨⟨0,ByteArray.empty,0⟩⟩
 obtain⟨a,c,d,rfl,e,p⟩:=Kr underlying27 XV (by omega) (QL W) (fun _ _ _ _ _ j l m=>QT j l m) h;rcases p with rfl|⟨b,g,rfl,n,f⟩
 ·exact⟨a,c,[],rfl,.inl rfl,⟨e,by simp⟩⟩
 ·exact⟨_,c,d,rfl,.inr ⟨b,g,rfl,n,fun i k o=>(f i k o).1⟩,⟨e,ED f (fun _ _ _ q=>q.2)⟩⟩
end
end
section
section
open Go.ChangeShapes Go.WideShapes Go.ChangeAt Go.RowKit Go.Deep
variable {H:Type} {enc:TypeId×Value->H} {W:Zh} {base:Nat} {spare:Nat->Bool} {held:Bool}
theorem Aac{α:Type}{l:List α}(h:l.length=6):∃a b c d e f,l=[a,b,c,d,e,f]:=by match l,h with|[a,b,c,d,e,f],_=>exact⟨a,b,c,d,e,f,rfl⟩
end
end
end Go.Proofs.YtckmnfhmoankmaaGreatDoor
